import PyProof.Rows.All
import Wide.All
import OpenK.AllK
import Wide.FinOn
import PySem.Challenge.RW_buybook_k20_worth_of_a_basket
import HandS.ForMost
import HandS.Gcd
import HandS.Wide
import HandS.WideBits
import HandS.IsInst
import HandS.Codes
import HandS.Zip
import HandS.Style
import HandS.NoneIn
set_option Elab.async false
set_option linter.all false
set_option maxRecDepth 100000
set_option maxHeartbeats 4000000
set_option exponentiation.threshold 300
/-! Num: fractions as rational numbers; Euclid's turns. -/
namespace BB

theorem num_mul_eq {p q : Int} (hq : q ≠ 0) : (Rat.divInt p q).num * q = p * ((Rat.divInt p q).den : Int) := by
  have h := Rat.num_divInt_den (Rat.divInt p q)
  have hd : ((Rat.divInt p q).den : Int) ≠ 0 := by
    have := (Rat.divInt p q).den_nz
    omega
  exact (Rat.divInt_eq_divInt_iff hd hq).mp h

/-- what ratio reckons -/
theorem ratio_num {p q : Int} (hq : q ≠ 0) : p.fdiv (if q < 0 then -((Nat.gcd p.natAbs q.natAbs : Nat) : Int) else ((Nat.gcd p.natAbs q.natAbs : Nat) : Int)) = (Rat.divInt p q).num := by
  have hg : 0 < Nat.gcd p.natAbs q.natAbs := Nat.gcd_pos_of_pos_right _ (by omega)
  have hdp : ((Nat.gcd p.natAbs q.natAbs : Nat) : Int) ∣ p := Int.ofNat_dvd_left.mpr (Nat.gcd_dvd_left _ _)
  rw [Rat.num_divInt]
  have e : q.gcd p = Nat.gcd p.natAbs q.natAbs := by rw [Int.gcd, Nat.gcd_comm]
  rw [e]
  obtain ⟨k, hk⟩ := hdp
  generalize hG : ((Nat.gcd p.natAbs q.natAbs : Nat) : Int) = G at *
  have hG0 : G ≠ 0 := by omega
  by_cases h : q < 0
  · rw [if_pos h, Int.sign_eq_neg_one_of_neg h, hk]
    rw [show -1 * (G * k) = G * (-k) by rw [Int.mul_neg]; omega, Int.mul_ediv_cancel_left _ hG0]
    rw [show G * k = (-G) * (-k) by rw [Int.neg_mul_neg], Int.mul_fdiv_cancel_left _ (by omega)]
  · rw [if_neg h, Int.sign_eq_one_of_pos (by omega), hk, Int.one_mul, Int.mul_ediv_cancel_left _ hG0, Int.mul_fdiv_cancel_left _ hG0]

theorem ratio_den {p q : Int} (hq : q ≠ 0) : q.fdiv (if q < 0 then -((Nat.gcd p.natAbs q.natAbs : Nat) : Int) else ((Nat.gcd p.natAbs q.natAbs : Nat) : Int)) = ((Rat.divInt p q).den : Int) := by
  have hg : 0 < Nat.gcd p.natAbs q.natAbs := Nat.gcd_pos_of_pos_right _ (by omega)
  have hdq : Nat.gcd p.natAbs q.natAbs ∣ q.natAbs := Nat.gcd_dvd_right _ _
  rw [Rat.den_divInt, if_neg hq]
  have e : q.gcd p = Nat.gcd p.natAbs q.natAbs := by rw [Int.gcd, Nat.gcd_comm]
  rw [e]
  obtain ⟨k, hk⟩ := hdq
  generalize hG : Nat.gcd p.natAbs q.natAbs = G at *
  rw [hk, Nat.mul_div_cancel_left _ hg]
  by_cases h : q < 0
  · rw [if_pos h]
    have : q = (-(G : Int)) * (k : Int) := by
      have h2 : (q.natAbs : Int) = -q := by omega
      rw [hk] at h2
      rw [Int.neg_mul, ← Int.natCast_mul]; omega
    rw [this, Int.mul_fdiv_cancel_left _ (by omega)]
  · rw [if_neg h]
    have : q = (G : Int) * (k : Int) := by
      have h2 : (q.natAbs : Int) = q := by omega
      rw [hk] at h2
      rw [← Int.natCast_mul]; omega
    rw [this, Int.mul_fdiv_cancel_left _ (by omega)]

theorem ratio_common {p q : Int} (hq : q ≠ 0) : (if q < 0 then -((Nat.gcd p.natAbs q.natAbs : Nat) : Int) else ((Nat.gcd p.natAbs q.natAbs : Nat) : Int)) ≠ 0 ∧
    (if q < 0 then -((Nat.gcd p.natAbs q.natAbs : Nat) : Int) else ((Nat.gcd p.natAbs q.natAbs : Nat) : Int)).natAbs ≤ q.natAbs := by
  have hg : 0 < Nat.gcd p.natAbs q.natAbs := Nat.gcd_pos_of_pos_right _ (by omega)
  have hl : Nat.gcd p.natAbs q.natAbs ≤ q.natAbs := Nat.le_of_dvd (by omega) (Nat.gcd_dvd_right _ _)
  split <;> omega

theorem rat_add (a b : Rat) : Rat.divInt (a.num * b.den + b.num * a.den) (a.den * b.den) = a + b := by
  rw [Rat.add_def', ← Int.natCast_mul, Rat.divInt_ofNat]
theorem rat_sub (a b : Rat) : Rat.divInt (a.num * b.den - b.num * a.den) (a.den * b.den) = a - b := by
  rw [Rat.sub_def', ← Int.natCast_mul, Rat.divInt_ofNat]
theorem rat_mul (a b : Rat) : Rat.divInt (a.num * b.num) (a.den * b.den) = a * b := by
  rw [Rat.mul_def', ← Int.natCast_mul, Rat.divInt_ofNat]
theorem rat_div (a b : Rat) : Rat.divInt (a.num * b.den) (a.den * b.num) = a / b := by
  rw [Rat.div_def, Rat.inv_def, ← Rat.divInt_mul_divInt, Rat.num_divInt_den]

/-! ### sizes -/
/-- numerator and denominator below 2 ^ n -/
def Sz (n : Nat) (r : Rat) : Prop := r.num.natAbs < 2 ^ n ∧ r.den < 2 ^ n
theorem Sz.mono {n m : Nat} {r : Rat} (h : Sz n r) (k : n ≤ m) : Sz m r :=
  ⟨Nat.lt_of_lt_of_le h.1 (Nat.pow_le_pow_right (by decide) k), Nat.lt_of_lt_of_le h.2 (Nat.pow_le_pow_right (by decide) k)⟩
theorem divInt_le {p q : Int} (hq : q ≠ 0) : (Rat.divInt p q).num.natAbs ≤ p.natAbs ∧ (Rat.divInt p q).den ≤ q.natAbs := by
  constructor
  · rw [Rat.num_divInt, Int.natAbs_ediv_of_dvd ?_]
    · rw [Int.natAbs_mul]
      have : q.sign.natAbs = 1 := Int.natAbs_sign_of_ne_zero hq
      rw [this, Nat.one_mul]
      exact Nat.div_le_self _ _
    · exact Int.dvd_mul_of_dvd_right (Int.gcd_dvd_right ..)
  · rw [Rat.den_divInt, if_neg hq]
    exact Nat.div_le_self _ _
theorem divInt_sz {p q : Int} {n : Nat} (hq : q ≠ 0) (h1 : p.natAbs < 2 ^ n) (h2 : q.natAbs < 2 ^ n) : Sz n (Rat.divInt p q) :=
  ⟨Nat.lt_of_le_of_lt (divInt_le hq).1 h1, Nat.lt_of_le_of_lt (divInt_le hq).2 h2⟩
theorem mul_lt_pow {x y a b : Nat} (h1 : x < 2 ^ a) (h2 : y < 2 ^ b) : x * y < 2 ^ (a + b) := by
  rw [Nat.pow_add]; exact Nat.mul_lt_mul'' h1 h2
theorem natAbs_mul_lt {x y : Int} {a b : Nat} (h1 : x.natAbs < 2 ^ a) (h2 : y.natAbs < 2 ^ b) : (x * y).natAbs < 2 ^ (a + b) := by
  rw [Int.natAbs_mul]; exact mul_lt_pow h1 h2
theorem natAbs_add_lt {x y : Int} {a : Nat} (h1 : x.natAbs < 2 ^ a) (h2 : y.natAbs < 2 ^ a) : (x + y).natAbs < 2 ^ (a + 1) := by
  rw [Nat.pow_succ]; omega
theorem natAbs_sub_lt {x y : Int} {a : Nat} (h1 : x.natAbs < 2 ^ a) (h2 : y.natAbs < 2 ^ a) : (x - y).natAbs < 2 ^ (a + 1) := by
  rw [Nat.pow_succ]; omega
theorem Sz.den {n : Nat} {r : Rat} (h : Sz n r) : ((r.den : Int)).natAbs < 2 ^ n := by
  have := h.2; omega
theorem den_pos (r : Rat) : (0 : Int) < (r.den : Int) := by have := r.den_nz; omega
theorem den_ne (r : Rat) : (r.den : Int) ≠ 0 := by have := r.den_nz; omega
theorem den_mul_pos (r s : Rat) : (0 : Int) < (r.den : Int) * (s.den : Int) := Int.mul_pos (den_pos r) (den_pos s)
theorem cross_lt {a b : Nat} {r s : Rat} (hr : Sz a r) (hs : Sz b s) : (r.num * (s.den : Int)).natAbs < 2 ^ (a + b) ∧ (s.num * (r.den : Int)).natAbs < 2 ^ (a + b) ∧ ((r.den : Int) * (s.den : Int)).natAbs < 2 ^ (a + b) :=
  ⟨natAbs_mul_lt hr.1 hs.den, by rw [Nat.add_comm]; exact natAbs_mul_lt hs.1 hr.den, natAbs_mul_lt hr.den hs.den⟩
theorem Sz.add {a b : Nat} {r s : Rat} (hr : Sz a r) (hs : Sz b s) : Sz (a + b + 1) (r + s) := by
  obtain ⟨h1, h2, h3⟩ := cross_lt hr hs
  rw [← rat_add]
  exact divInt_sz (Int.ne_of_gt (den_mul_pos r s)) (natAbs_add_lt h1 h2) (Nat.lt_of_lt_of_le h3 (Nat.pow_le_pow_right (by decide) (Nat.le_succ _)))
theorem Sz.sub {a b : Nat} {r s : Rat} (hr : Sz a r) (hs : Sz b s) : Sz (a + b + 1) (r - s) := by
  obtain ⟨h1, h2, h3⟩ := cross_lt hr hs
  rw [← rat_sub]
  exact divInt_sz (Int.ne_of_gt (den_mul_pos r s)) (natAbs_sub_lt h1 h2) (Nat.lt_of_lt_of_le h3 (Nat.pow_le_pow_right (by decide) (Nat.le_succ _)))
theorem Sz.mul {a b : Nat} {r s : Rat} (hr : Sz a r) (hs : Sz b s) : Sz (a + b) (r * s) := by
  rw [← rat_mul]
  exact divInt_sz (Int.ne_of_gt (den_mul_pos r s)) (natAbs_mul_lt hr.1 hs.1) (natAbs_mul_lt hr.den hs.den)
theorem Sz.neg {a : Nat} {r : Rat} (hr : Sz a r) : Sz a (-r) := ⟨by rw [Rat.neg_num, Int.natAbs_neg]; exact hr.1, by rw [Rat.neg_den]; exact hr.2⟩
theorem num_ne {r : Rat} (h : r ≠ 0) : r.num ≠ 0 := fun e => h (Rat.num_eq_zero.mp e)
theorem Sz.div {a b : Nat} {r s : Rat} (hr : Sz a r) (hs : Sz b s) (h0 : s ≠ 0) : Sz (a + b) (r / s) := by
  rw [← rat_div]
  exact divInt_sz (Int.mul_ne_zero (den_ne r) (num_ne h0)) (natAbs_mul_lt hr.1 hs.den) (natAbs_mul_lt hr.den hs.1)

/-! ### Euclid -/
/-- what stands after i turns, from a b below 2 ^ L -/
def Euc (L g i : Nat) (a b : Nat) : Prop := Nat.gcd a b = g ∧ (i % 2 = 0 → b < 2 ^ (L - i / 2)) ∧ (i % 2 = 1 → a < 2 ^ (L - i / 2) ∧ b < a)
theorem euc_start {L a b : Nat} (h : b < 2 ^ L) : Euc L (Nat.gcd a b) 0 a b := ⟨rfl, fun _ => h, fun h => by omega⟩
theorem euc_step {L g i a b : Nat} (h : Euc L g i a b) (hb : b ≠ 0) : Euc L g (i + 1) b (a % b) := by
  obtain ⟨hg, h0, h1⟩ := h
  refine ⟨?_, fun e => ?_, fun e => ?_⟩
  · rw [← hg, Nat.gcd_comm a b, Nat.gcd_rec b a, Nat.gcd_comm]
  · obtain ⟨ha, hba⟩ := h1 (by omega)
    have e1 : (i + 1) / 2 = i / 2 + 1 := by omega
    rw [e1]
    have hlt : a % b < b := Nat.mod_lt _ (by omega)
    have hle : a % b + b ≤ a := by
      have := Nat.div_add_mod a b
      have hd : 1 ≤ a / b := Nat.div_pos (by omega) (by omega)
      have : b * 1 ≤ b * (a / b) := Nat.mul_le_mul_left _ hd
      omega
    by_cases hz : L - i / 2 = 0
    · rw [hz] at ha; omega
    · rw [show L - i / 2 = (L - (i / 2 + 1)) + 1 by omega, Nat.pow_succ] at ha
      omega
  · have e1 : (i + 1) / 2 = i / 2 := by omega
    rw [e1]
    exact ⟨h0 (by omega), Nat.mod_lt _ (by omega)⟩
theorem euc_end {L g a b : Nat} (h : Euc L g (2 * L + 2) a b) : a = g := by
  obtain ⟨hg, h0, _⟩ := h
  have := h0 (by omega)
  rw [show L - (2 * L + 2) / 2 = 0 by omega] at this
  have : b = 0 := by omega
  subst this
  rw [← hg, Nat.gcd_zero_right]
theorem euc_zero {L g i a : Nat} (h : Euc L g i a 0) : a = g := by rw [← h.1, Nat.gcd_zero_right]

/-! ### rows -/
def dotR : List Rat → List Rat → Rat
  | r :: rs, s :: ss => r * s + dotR rs ss
  | _, _ => 0
theorem dotR_nil (ss : List Rat) : dotR [] ss = 0 := by cases ss <;> rfl
theorem dotR_take : ∀ (rs ss : List Rat) (i : Nat) (r s : Rat), rs[i]? = some r → ss[i]? = some s → dotR (rs.take (i + 1)) (ss.take (i + 1)) = dotR (rs.take i) (ss.take i) + r * s
  | [], _, _, _, _, h, _ => by simp at h
  | _ :: _, [], _, _, _, _, h => by simp at h
  | a :: rs, b :: ss, 0, r, s, h, h2 => by
    have e1 : a = r := Option.some.inj h
    have e2 : b = s := Option.some.inj h2
    subst e1 e2
    show a * b + dotR (rs.take 0) (ss.take 0) = dotR [] [] + a * b
    rw [List.take_zero, List.take_zero, dotR_nil]
    exact Rat.add_comm _ _
  | a :: rs, b :: ss, i + 1, r, s, h, h2 => by
    have ih := dotR_take rs ss i r s h h2
    show a * b + dotR (rs.take (i + 1)) (ss.take (i + 1)) = a * b + dotR (rs.take i) (ss.take i) + r * s
    rw [ih, Rat.add_assoc]
theorem sz_zero : Sz 1 (0 : Rat) := ⟨by decide, by decide⟩
theorem sz_one : Sz 1 (1 : Rat) := ⟨by decide, by decide⟩
theorem dotR_sz {B : Nat} : ∀ {rs ss : List Rat}, (∀ r ∈ rs, Sz B r) → (∀ s ∈ ss, Sz B s) → Sz (1 + rs.length * (2 * B + 1)) (dotR rs ss)
  | [], ss, _, _ => by rw [dotR_nil]; exact sz_zero.mono (by omega)
  | _ :: _, [], _, _ => sz_zero.mono (by omega)
  | a :: rs, b :: ss, h1, h2 => by
    have ih := dotR_sz (rs := rs) (ss := ss) (fun r hr => h1 r (List.mem_cons_of_mem _ hr)) (fun s hs => h2 s (List.mem_cons_of_mem _ hs))
    have m := (h1 a List.mem_cons_self).mul (h2 b List.mem_cons_self)
    refine (m.add ih).mono ?_
    have e : (rs.length + 1) * (2 * B + 1) = rs.length * (2 * B + 1) + (2 * B + 1) := Nat.succ_mul _ _
    rw [List.length_cons, e]
    generalize rs.length * (2 * B + 1) = n
    omega
theorem divInt_nonneg {p q : Int} (hp : 0 ≤ p) (hq : 0 < q) : 0 ≤ Rat.divInt p q := (Rat.divInt_nonneg_iff_of_pos_right hq).mpr hp
theorem divInt_pos {p q : Int} (hp : 0 < p) (hq : 0 < q) : 0 < Rat.divInt p q := by
  refine Rat.lt_of_le_of_ne (divInt_nonneg (by omega) hq) fun e => ?_
  have := num_mul_eq (p := p) (q := q) (by omega)
  rw [← e] at this
  have h2 : p = 0 := by simpa using this.symm
  omega
theorem num_pos {r : Rat} (h : 0 < r) : 0 < r.num := by
  have h1 := Rat.num_nonneg.mpr (Rat.le_of_lt h)
  have h2 : r.num ≠ 0 := num_ne fun e => by rw [e] at h; exact absurd h (by decide)
  omega
theorem num_nn {r : Rat} (h : 0 ≤ r) : 0 ≤ r.num := Rat.num_nonneg.mpr h
theorem pos_of {r : Rat} (h0 : 0 ≤ r) (h : r.num ≠ 0) : 0 < r := Rat.lt_of_le_of_ne h0 fun e => h (by rw [← e]; rfl)
theorem pow1000 (i : Nat) : 1000 ^ i ≤ 2 ^ (10 * i) := by
  rw [Nat.pow_mul]
  exact Nat.pow_le_pow_left (by decide) i
end BB

set_option maxHeartbeats 4000000
/-! Lay: short words of my own over the hand layer. -/
namespace BB
open PySem PySem.Spec PyProof.Rows L2

/-- a def of the module, by its name and its promise -/
structure Dn (P : Program) (w : World) (K : PySem.W.Frag) (mg : Str → Option Value) (base : Heap) (CX : CXT) (k : Nat) (x : Str) (sp : Sp) : Prop where
  ex : ∃ (f : Addr) (fd : FuncData) (ps : List Str), FnOk P w K mg base CX k f fd ps sp ∧ mg x = some (.ref f) ∧ PySem.W.keepIn K (.ref f) = true ∧ Binds K fd ps []

section
variable {X : Cx} {CX : CXT} {x : Str} {p pos : Pos} {e : Expr} {es : List Expr} {t : TA} {sp : Sp} {k j : Nat} {E : XK}
theorem pe_d (c : Dn X.prog X.w X.K X.mg X.base CX k x sp) (hr : Room j X.A) (hk : k ≤ j) (hg : Gl X x) (hx : Passes CX X E) (ha : PA X (e :: es) t)
    (hdb : (x == ("__debug__" : Str)) = false := by decide) (he : starEach (e :: es) X.env = (false, eval e X.env) :: starEach es X.env := by rfl) (hpl : (backTo pos (starEach es X.env)).any (·.1) = false := by rfl) :
    PE X (.Call (.Name x p) (e :: es) [] pos) (tCall sp [] E t) := by
  obtain ⟨f, fd, ps, F, hm, kp, b⟩ := c.ex
  exact pe_call F (hr.mono hk) hg hm kp b .nil hx ha hdb he hpl
end

/-! ### numbers -/
def CMulG (i j : Int) : Prop := IntMulOk i j
def CDivG (_ j : Int) : Prop := j ≠ 0 ∧ j.natAbs < 2 ^ 9000
section
variable {X : Cx}
theorem op_mulG : OpR X (binaryOp .Mult) (rI CMulG fun i j => .int (i * j)) := opI fun _ _ _ _ _ _ _ hc q => mul_int q hc
theorem op_fdivG : OpR X (binaryOp .FloorDiv) (rI CDivG fun i j => .int (i.fdiv j)) := opI fun _ j _ _ _ _ _ hc q =>
  floordiv_int hc.1 q (.inl (PyProof.noPylong_of_log2 (PySem.Flt.log2_lt_of (by decide) hc.2)))
end
theorem mulG_l {i j : Int} (h : i.natAbs < 2 ^ 60) : CMulG i j := (show CMul i j from .inl ⟨by omega, by omega⟩).ok
theorem mulG_r {i j : Int} (h : j.natAbs < 2 ^ 60) : CMulG i j := (show CMul i j from .inr ⟨by omega, by omega⟩).ok
theorem mulG_b {i j : Int} {a b : Nat} (ha : i.natAbs < 2 ^ a) (hb : j.natAbs < 2 ^ b) (h : a + b ≤ 134217728) : CMulG i j := (mulx_ok ha hb h).ok

theorem bits_lt {n L : Nat} (h : Builtin.Int.intBits (n : Int) = L) : n < 2 ^ L := by
  unfold Builtin.Int.intBits at h
  split at h
  · rename_i z
    have : n = 0 := by
      have := eq_of_beq z
      omega
    subst this
    exact Nat.pow_pos (by decide)
  · subst h
    rw [Int.natAbs_natCast]
    exact Nat.lt_log2_self
theorem bits_le {n m : Nat} (h : n < 2 ^ m) : Builtin.Int.intBits (n : Int) ≤ m + 1 := by
  unfold Builtin.Int.intBits
  split
  · omega
  · rename_i z
    rw [Int.natAbs_natCast]
    by_cases h0 : n = 0
    · subst h0; simp at z
    · have := (Nat.log2_lt h0).mpr h
      omega

/-! ### sequences, as they stand -/
theorem sqt_upd {K : PySem.W.Frag} {H : Hp} {a p : Addr} {xs : List V} {o : HO} (hp : H p = none) (h : SqT K H a xs) : SqT K (upd H p o) a xs := by
  rcases h with (h | ⟨o', h⟩) | h
  · exact .inl (.inl (by rw [upd_ne (ne_of_none h hp)]; exact h))
  · exact .inl (.inr ⟨o', by rw [upd_ne (ne_of_none h hp)]; exact h⟩)
  · exact .inr h
theorem sql_upd {K : PySem.W.Frag} {H : Hp} {a p : Addr} {xs : List V} {o : HO} (hp : H p = none) (h : SqL K H a xs) : SqL K (upd H p o) a xs := by
  rcases h with (h | ⟨o', h⟩) | h
  · exact .inl (.inl (by rw [upd_ne (ne_of_none h hp)]; exact h))
  · exact .inl (.inr ⟨o', by rw [upd_ne (ne_of_none h hp)]; exact h⟩)
  · exact .inr h
theorem sqt_same {K : PySem.W.Frag} {H H' : Hp} {a : Addr} {xs : List V} (e : Same H H') (h : SqT K H a xs) : SqT K H' a xs := by
  rcases h with (h | ⟨o', h⟩) | h
  · exact .inl (.inl (e _ _ h))
  · exact .inl (.inr ⟨o', e _ _ h⟩)
  · exact .inr h
theorem same_upd {H : Hp} {p : Addr} {o : HO} (h : H p = none) : Same H (upd H p o) := fun b x e => by
  rw [upd_ne (ne_of_none e h)]
  exact e
/-- a thing that H₀ did not know may change -/
theorem same_mut {H₀ H : Hp} {p : Addr} {o : HO} (e : Same H₀ H) (h : H₀ p = none) : Same H₀ (upd H p o) := fun b x z => by
  rw [upd_ne (ne_of_none z h)]
  exact e b x z
theorem none_upd {H : Hp} {p q : Addr} {o : HO} (h : (upd H p o) q = none) : H q = none ∧ q ≠ p := by
  by_cases e : q = p
  · subst e; rw [upd_same] at h; cases h
  · rw [upd_ne e] at h; exact ⟨h, e⟩

/-- a fraction that stands at a -/
def IsF (K : PySem.W.Frag) (H : Hp) (a : Addr) (r : Rat) : Prop := SqT K H a [.int r.num, .int (r.den : Int)]
/-- a new fraction -/
def rF (K : PySem.W.Frag) (H : Hp) (r : Rat) (Q : VK) : Prop := ∀ H' a, Same H H' → H a = none → IsF K H' a r → Q (.ref a) H'
theorem IsF.new {K : PySem.W.Frag} {H : Hp} {a p : Addr} {r : Rat} {o : HO} (hp : H p = none) (h : IsF K H a r) : IsF K (upd H p o) a r := sqt_upd hp h
theorem IsF.same {K : PySem.W.Frag} {H H' : Hp} {a : Addr} {r : Rat} (e : Same H H') (h : IsF K H a r) : IsF K H' a r := sqt_same e h
theorem tyT {K : PySem.W.Frag} {H : Hp} {a : Addr} {xs : List V} (h : SqT K H a xs) : TyX K H (.ref a) (.type "tuple") := by
  rcases h with (h | ⟨o', h⟩) | ⟨o, its, n, h, c, _⟩
  · exact .base (.tup h)
  · exact .fTuple h
  · exact .kTuple h c

theorem abs_nn (x : Int) : (0 : Int) ≤ (if x < 0 then -x else x) := by split <;> omega
theorem abs_na (x : Int) : (if x < 0 then -x else x).natAbs = x.natAbs := by split <;> omega
/-! ### drawn rows -/
def isRow (row : List Int) (m : Nat) : Prop := row.length = m ∧ ∀ v ∈ row, 0 ≤ v ∧ v < 1000
theorem isRow.snoc {row : List Int} {m : Nat} {v : Int} (h : isRow row m) (h0 : 0 ≤ v) (h1 : v < 1000) : isRow (row ++ [v]) (m + 1) := by
  refine ⟨by rw [List.length_append, h.1]; rfl, fun u hu => ?_⟩
  rcases List.mem_append.mp hu with hu | hu
  · exact h.2 u hu
  · rw [List.mem_singleton] at hu; subst hu; exact ⟨h0, h1⟩
theorem isRow.get {row : List Int} {n i : Nat} (h : isRow row n) (hi : i < n) : ∃ v, row[i]? = some v ∧ (row.map V.int)[i]? = some (.int v) ∧ 0 ≤ v ∧ v < 1000 := by
  have hl : i < row.length := by rw [h.1]; exact hi
  obtain ⟨h0, h1⟩ := h.2 _ (List.getElem_mem hl)
  exact ⟨row[i], List.getElem?_eq_getElem hl, by rw [List.getElem?_map, List.getElem?_eq_getElem hl]; rfl, h0, h1⟩
theorem isRow.at {row : List Int} {n : Nat} (h : isRow row n) (i : Nat) (hi : i < n) : ∃ v : Int, atI (row.map V.int) (i : Int) = some (.int v) ∧ 0 ≤ v ∧ v < 1000 := by
  obtain ⟨v, _, h2, h3, h4⟩ := h.get hi
  exact ⟨v, atI_nat h2, h3, h4⟩
/-- a row that grows at o -/
def RowAt (H H' : Hp) (o : Addr) (i : Nat) : Prop := H o = none ∧ Same H H' ∧ ∃ rw, isRow rw i ∧ H' o = some (.lst (rw.map V.int))
theorem RowAt.start {H : Hp} {o : Addr} (no : H o = none) : RowAt H (upd H o (.lst [])) o 0 := ⟨no, same_upd no, [], ⟨rfl, fun v hv => by cases hv⟩, upd_same⟩
theorem RowAt.push {H H' : Hp} {o : Addr} {i : Nat} {xs : List V} {z : Int} (r : RowAt H H' o i) (eo : H' o = some (.lst xs)) (h0 : 0 ≤ z) (h1 : z < 1000) : RowAt H (upd H' o (.lst (xs ++ [.int z]))) o (i + 1) := by
  obtain ⟨no, sm, rw, hr, e⟩ := r
  have e2 : xs = rw.map V.int := by
    rw [eo] at e
    exact HO.lst.inj (Option.some.inj e)
  refine ⟨no, same_mut sm no, rw ++ [z], hr.snoc h0 h1, ?_⟩
  rw [upd_same, e2, List.map_append]
  rfl

/-! ### cuts -/
theorem cut_id {D : Ends} {t u : TS} {σ : L2.St} {H : Hp} (Mid : L2.St → Hp → Prop) (h1 : t { D with nx := Mid } σ H) (h2 : ∀ σ' H', Mid σ' H' → u D σ' H') : C8.tCut t u D σ H := ⟨Mid, h1, h2⟩

/-! ### lists of fractions -/
theorem sqt_mut {K : PySem.W.Frag} {H : Hp} {a D : Addr} {xs zs : List V} {o : HO} (hD : H D = some (.lst zs)) (h : SqT K H a xs) : SqT K (upd H D o) a xs := by
  rcases h with (h | ⟨o', h⟩) | h
  · exact .inl (.inl (by rw [upd_ne (ne_of h hD (fun z => nomatch z))]; exact h))
  · exact .inl (.inr ⟨o', by rw [upd_ne (ne_of h hD (fun z => nomatch z))]; exact h⟩)
  · exact .inr h
theorem IsF.mut {K : PySem.W.Frag} {H : Hp} {a D : Addr} {r : Rat} {zs : List V} {o : HO} (hD : H D = some (.lst zs)) (h : IsF K H a r) : IsF K (upd H D o) a r := sqt_mut hD h
/-- fractions, one by one -/
def Fs (K : PySem.W.Frag) (H : Hp) (as : List Addr) (rs : List Rat) : Prop := as.length = rs.length ∧ ∀ (i : Nat) (a : Addr) (r : Rat), as[i]? = some a → rs[i]? = some r → IsF K H a r
theorem Fs.nil {K : PySem.W.Frag} {H : Hp} : Fs K H [] [] := ⟨rfl, fun i a r h _ => by simp at h⟩
theorem Fs.same {K : PySem.W.Frag} {H H' : Hp} {as : List Addr} {rs : List Rat} (e : Same H H') (h : Fs K H as rs) : Fs K H' as rs := ⟨h.1, fun i a r h1 h2 => (h.2 i a r h1 h2).same e⟩
theorem Fs.mut {K : PySem.W.Frag} {H : Hp} {D : Addr} {zs : List V} {o : HO} {as : List Addr} {rs : List Rat} (hD : H D = some (.lst zs)) (h : Fs K H as rs) : Fs K (upd H D o) as rs := ⟨h.1, fun i a r h1 h2 => (h.2 i a r h1 h2).mut hD⟩
theorem Fs.snoc {K : PySem.W.Frag} {H : Hp} {as : List Addr} {rs : List Rat} {a : Addr} {r : Rat} (h : Fs K H as rs) (x : IsF K H a r) : Fs K H (as ++ [a]) (rs ++ [r]) := by
  refine ⟨by rw [List.length_append, List.length_append, h.1]; rfl, fun i b q h1 h2 => ?_⟩
  have hl := h.1
  rcases Nat.lt_or_ge i as.length with hi | hi
  · rw [List.getElem?_append_left hi] at h1
    rw [List.getElem?_append_left (by omega)] at h2
    exact h.2 i b q h1 h2
  · rw [List.getElem?_append_right hi] at h1
    rw [List.getElem?_append_right (by omega)] at h2
    have hi2 : i - as.length = 0 := by
      have := (List.getElem?_eq_some_iff.mp h1).1
      rw [List.length_singleton] at this
      omega
    rw [hi2] at h1
    rw [show i - rs.length = 0 by omega] at h2
    have e1 : a = b := Option.some.inj h1
    have e2 : r = q := Option.some.inj h2
    rw [← e1, ← e2]
    exact x
/-- a list, at l, of these fractions -/
def FsAt (K : PySem.W.Frag) (H : Hp) (l : Addr) (rs : List Rat) : Prop := ∃ as : List Addr, SqL K H l (as.map V.ref) ∧ Fs K H as rs
theorem FsAt.same {K : PySem.W.Frag} {H H' : Hp} {l : Addr} {rs : List Rat} (e : Same H H') (h : FsAt K H l rs) : FsAt K H' l rs := let ⟨as, h1, h2⟩ := h; ⟨as, e.seq h1, h2.same e⟩
/-- the same, tracked -/
def NewFs (K : PySem.W.Frag) (H : Hp) (l : Addr) (rs : List Rat) : Prop := ∃ as : List Addr, H l = some (.lst (as.map V.ref)) ∧ Fs K H as rs
theorem NewFs.at {K : PySem.W.Frag} {H : Hp} {l : Addr} {rs : List Rat} (h : NewFs K H l rs) : FsAt K H l rs := let ⟨as, h1, h2⟩ := h; ⟨as, SqL.of h1, h2⟩
theorem NewFs.same {K : PySem.W.Frag} {H H' : Hp} {l : Addr} {rs : List Rat} (e : Same H H') (h : NewFs K H l rs) : NewFs K H' l rs := let ⟨as, h1, h2⟩ := h; ⟨as, e _ _ h1, h2.same e⟩
def rFs (K : PySem.W.Frag) (H : Hp) (rs : List Rat) (Q : VK) : Prop := ∀ H' l, Same H H' → H l = none → NewFs K H' l rs → Q (.ref l) H'
/-- its places -/
theorem Fs.get {K : PySem.W.Frag} {H : Hp} {as : List Addr} {rs : List Rat} (h : Fs K H as rs) {i : Nat} (hi : i < rs.length) : ∃ a r, as[i]? = some a ∧ (as.map V.ref)[i]? = some (.ref a) ∧ rs[i]? = some r ∧ IsF K H a r := by
  have hl : i < as.length := by rw [h.1]; exact hi
  exact ⟨as[i], rs[i], List.getElem?_eq_getElem hl, by rw [List.getElem?_map, List.getElem?_eq_getElem hl]; rfl, List.getElem?_eq_getElem hi, h.2 i _ _ (List.getElem?_eq_getElem hl) (List.getElem?_eq_getElem hi)⟩
theorem Fs.of {K : PySem.W.Frag} {H : Hp} {as : List Addr} {rs : List Rat} (h : Fs K H as rs) {i : Nat} {x : V} (hx : (as.map V.ref)[i]? = some x) : ∃ a r, x = .ref a ∧ as[i]? = some a ∧ rs[i]? = some r ∧ IsF K H a r ∧ i < rs.length := by
  have hi : i < as.length := by
    have := (List.getElem?_eq_some_iff.mp hx).1
    rw [List.length_map] at this
    exact this
  have hi2 : i < rs.length := by rw [← h.1]; exact hi
  obtain ⟨a, r, e1, e2, e3, e4⟩ := h.get hi2
  rw [hx] at e2
  exact ⟨a, r, Option.some.inj e2, e1, e3, e4, hi2⟩
/-- a list of fractions that grows at D, over H₀ -/
structure Grow (K : PySem.W.Frag) (H₀ H : Hp) (D : Addr) (rs : List Rat) : Prop where
  new : H₀ D = none
  same : Same H₀ H
  ex : NewFs K H D rs
theorem Grow.start {K : PySem.W.Frag} {H : Hp} {D : Addr} (hD : H D = none) : Grow K H (upd H D (.lst [])) D [] := ⟨hD, same_upd hD, [], upd_same, .nil⟩
theorem Grow.step {K : PySem.W.Frag} {H₀ H H1 : Hp} {D a : Addr} {rs : List Rat} {r : Rat} (g : Grow K H₀ H D rs) (s : Same H H1) (x : IsF K H1 a r) (hl : rs.length ≤ 1000) :
    ∃ acc, H1 D = some (.lst acc) ∧ acc.length < sizeLine ∧ Grow K H₀ (upd H1 D (.lst (acc ++ [.ref a]))) D (rs ++ [r]) := by
  obtain ⟨n, sm, as, e, f⟩ := g
  have e1 := s _ _ e
  refine ⟨as.map V.ref, e1, ?_, n, same_mut (sm.trans s) n, as ++ [a], ?_, ((f.same s).snoc x).mut e1⟩
  · rw [List.length_map, f.1]
    exact small1000 hl
  · rw [upd_same, List.map_append]
    rfl
theorem Grow.fs {K : PySem.W.Frag} {H₀ H : Hp} {D l : Addr} {rs ss : List Rat} (g : Grow K H₀ H D rs) (h : FsAt K H₀ l ss) : FsAt K H l ss := h.same g.same

/-- a comprehension over zip of two lists of one length -/
theorem lc_zipL {K : PySem.W.Frag} {a b : Addr} {xs ys : List V} {g : TG} {tt : TT} {te : TE} {vs : List Nat} {σ : L2.St} {H1 : Hp} {D : Addr} {Qd : Hp → Prop} (hl : xs.length = ys.length) (Pv : Nat → Hp → Prop) (h0 : Pv 0 (upd H1 D (.lst []))) (hq : ∀ i H, Pv i H → SqL K H a xs ∧ SqL K H b ys)
    (hs : ∀ (i : Nat) (x y : V) (T : Addr) (H : Hp), xs[i]? = some x → ys[i]? = some y → Pv i H → H T = none → g (.ref T) (wipe σ vs) (upd H T (.tup [x, y])) fun σ2 H2 => wipe σ2 vs = wipe σ vs ∧ tt σ2 H2 fun b H3 =>
      if b = true then te σ2 H3 fun y H4 => ∃ acc, H4 D = some (.lst acc) ∧ acc.length < sizeLine ∧ Pv (i + 1) (upd H4 D (.lst (acc ++ [y]))) else Pv (i + 1) H3) (hd : ∀ H, Pv xs.length H → Qd H) :
    ∃ W : Nat → Nat → Hp → Prop, (∃ m, W 0 m (upd H1 D (.lst []))) ∧ ∀ i m H, W i m H →
      ((Itz K a b).stop i H ∧ Qd H) ∨ ((Itz K a b).go i H ∧ ∃ Nx : Hp → Prop, (∀ H', Nx H' → ∃ m', m' < m ∧ W (i + 1) m' H') ∧ ∀ x H', (Itz K a b).yld i H x H' → g x (wipe σ vs) H' fun σ2 H2 => wipe σ2 vs = wipe σ vs ∧ tt σ2 H2 fun b H3 =>
        if b = true then te σ2 H3 fun y H4 => ∃ acc, H4 D = some (.lst acc) ∧ acc.length < sizeLine ∧ Nx (upd H4 D (.lst (acc ++ [y]))) else Nx H3) := by
  refine ⟨fun i m H => m = xs.length - i ∧ i ≤ xs.length ∧ Pv i H, ⟨xs.length, rfl, Nat.zero_le _, h0⟩, ?_⟩
  rintro i m H ⟨rfl, hi, p⟩
  obtain ⟨qx, qy⟩ := hq i H p
  by_cases hlt : i < xs.length
  · have hx : xs[i]? = some xs[i] := List.getElem?_eq_getElem hlt
    have hlt2 : i < ys.length := by omega
    have hy : ys[i]? = some ys[i] := List.getElem?_eq_getElem hlt2
    refine .inr ⟨⟨xs, ys, _, _, qx, qy, hx, hy⟩, Pv (i + 1), fun H' p' => ⟨xs.length - (i + 1), by omega, rfl, hlt, p'⟩, fun v H' y => ?_⟩
    obtain ⟨T, x', y', rfl, hT, rfl, f1, f2⟩ := y
    exact hs i x' y' T H (f1 xs qx) (f2 ys qy) p hT
  · have e : i = xs.length := by omega
    subst e
    exact .inl ⟨⟨xs, ys, qx, qy, Or.inl (Nat.le_refl _)⟩, hd H p⟩

/-! ### data, for == -/
def fD (r : Rat) : PyData := .tuple [.int r.num, .int (r.den : Int)]
theorem dp_f {K : PySem.W.Frag} {H : Hp} {a : Addr} {r : Rat} (h : IsF K H a r) : Dp K H (.ref a) (fD r) := .tup h (.cons (.int _) (.cons (.int _) .nil))
theorem dpAll_f {K : PySem.W.Frag} {H : Hp} : ∀ (as : List Addr) (rs : List Rat), Fs K H as rs → DpAll K H (as.map V.ref) (rs.map fD)
  | [], [], _ => .nil
  | [], _ :: _, h => by have := h.1; simp at this
  | _ :: _, [], h => by have := h.1; simp at this
  | a :: as, r :: rs, h => .cons (dp_f (h.2 0 a r rfl rfl)) (dpAll_f as rs ⟨by have := h.1; simp at this; exact this, fun i b q h1 h2 => h.2 (i + 1) b q h1 h2⟩)
theorem dp_fs {K : PySem.W.Frag} {H : Hp} {l : Addr} {rs : List Rat} (h : FsAt K H l rs) : Dp K H (.ref l) (.list (rs.map fD)) := let ⟨_, h1, h2⟩ := h; .lst h1 (dpAll_f _ _ h2)
theorem canLay_f : ∀ rs : List Rat, PyData.canLayAll0 (rs.map fD) = true
  | [] => rfl
  | r :: rs => by
    show (PyData.canLay0 (fD r) && PyData.canLayAll0 (rs.map fD)) = true
    rw [canLay_f rs]
    rfl
theorem depth_f : ∀ rs : List Rat, PyData.depthAll (rs.map fD) ≤ 1
  | [] => Nat.zero_le _
  | r :: rs => by
    show max (PyData.depth (fD r)) (PyData.depthAll (rs.map fD)) ≤ 1
    exact Nat.max_le.mpr ⟨Nat.le_refl 1, depth_f rs⟩
theorem shaped_fs (rs : List Rat) : SeqAt.shaped (.list (rs.map fD)) = true := by
  unfold SeqAt.shaped
  rw [show PyData.canLay0 (.list (rs.map fD)) = PyData.canLayAll0 (rs.map fD) from rfl, canLay_f, Bool.true_and]
  refine decide_eq_true ?_
  show PyData.depthAll (rs.map fD) + 1 ≤ 64
  have := depth_f rs
  omega
theorem eqv_fs (rs : List Rat) : PyData.eqv (.list (rs.map fD)) (.list (rs.map fD)) = true := SeqAt.eqv_refl _ (canLay_f rs)

/-- a text, sign by sign -/
theorem for_sgn {x : Str} {g : TG} {tb : TS} {D : Ends} {σ : L2.St} {H : Hp} (Pv : Nat → L2.St → Hp → Prop) (h0 : Pv 0 σ H)
    (turn : ∀ (i c : Nat) (σ : L2.St) (H : Hp), x.cps[i]? = some c → Pv i σ H → g (.str ⟨#[c]⟩) σ H fun σ2 H2 => tb { D with nx := Pv (i + 1), ct := Pv (i + 1), bk := D.nx } σ2 H2) (fin : ∀ σ H, Pv x.cps.size σ H → D.nx σ H) :
    ∃ W : Nat → Nat → L2.St → Hp → Prop, (∃ m, W 0 m σ H) ∧ ∀ i m σ H, W i m σ H →
      ((Its x).stop i H ∧ D.nx σ H) ∨ ((Its x).go i H ∧ ∃ N : L2.St → Hp → Prop, (∀ σ' H', N σ' H' → ∃ m', m' < m ∧ W (i + 1) m' σ' H') ∧ ∀ v H', (Its x).yld i H v H' → g v σ H' fun σ2 H2 => tb { D with nx := N, ct := N, bk := D.nx } σ2 H2) := by
  refine ⟨fun i m σ H => m + i = x.cps.size ∧ Pv i σ H, ⟨x.cps.size, rfl, h0⟩, ?_⟩
  rintro i m σ H ⟨em, p⟩
  rcases Nat.lt_or_ge i x.cps.size with hlt | hge
  · refine .inr ⟨hlt, Pv (i + 1), fun σ' H' p' => ⟨m - 1, by omega, by omega, p'⟩, ?_⟩
    rintro v H' ⟨rfl, c, hc, rfl⟩
    exact turn i c σ H' hc p
  · have e : i = x.cps.size := by omega
    subst e
    exact .inl ⟨Nat.le_refl _, fin σ H p⟩
end BB

set_option maxHeartbeats 4000000
/-! Dat: nested data, how it stands, what is new of it, lists of it that grow. -/
namespace BB
open PySem PySem.Spec PyProof.Rows L2
variable {K : PySem.W.Frag}

mutual
theorem dp_same {H H' : Hp} (e : Same H H') : ∀ {v : V} {d : PyData}, Dp K H v d → Dp K H' v d
  | _, _, .non => .non
  | _, _, .bl b => .bl b
  | _, _, .int i => .int i
  | _, _, .str x => .str x
  | _, _, .lst h a => .lst (e.seq h) (dpa_same e a)
  | _, _, .tup h a => .tup (sqt_same e h) (dpa_same e a)
theorem dpa_same {H H' : Hp} (e : Same H H') : ∀ {vs : List V} {ds : List PyData}, DpAll K H vs ds → DpAll K H' vs ds
  | _, _, .nil => .nil
  | _, _, .cons a b => .cons (dp_same e a) (dpa_same e b)
end
theorem dp_lst {H : Hp} {v : V} {ds : List PyData} (h : Dp K H v (.list ds)) : ∃ a xs, v = .ref a ∧ SqL K H a xs ∧ DpAll K H xs ds := by
  cases h with
  | lst h a => exact ⟨_, _, rfl, h, a⟩
theorem dp_tup {H : Hp} {v : V} {ds : List PyData} (h : Dp K H v (.tuple ds)) : ∃ a xs, v = .ref a ∧ SqT K H a xs ∧ DpAll K H xs ds := by
  cases h with
  | tup h a => exact ⟨_, _, rfl, h, a⟩
theorem dp_int {H : Hp} {v : V} {i : Int} (h : Dp K H v (.int i)) : v = .int i := by cases h; rfl
theorem dp_bl {H : Hp} {v : V} {b : Bool} (h : Dp K H v (.bool b)) : v = .bl b := by cases h; rfl
theorem dp_str {H : Hp} {v : V} {x : Str} (h : Dp K H v (.str x)) : v = .str x := by cases h; rfl
theorem dp_non {H : Hp} {v : V} (h : Dp K H v .none) : v = .non := by cases h; rfl
theorem dpa_len {H : Hp} : ∀ {xs : List V} {ds : List PyData}, DpAll K H xs ds → xs.length = ds.length
  | _, _, .nil => rfl
  | _, _, .cons _ b => congrArg (· + 1) (dpa_len b)
theorem dpa_get {H : Hp} : ∀ {xs : List V} {ds : List PyData} {i : Nat} {d : PyData}, DpAll K H xs ds → ds[i]? = some d → ∃ x, xs[i]? = some x ∧ Dp K H x d
  | _, _, _, _, .nil, e => by simp at e
  | _, _, 0, _, .cons a _, e => by
    cases Option.some.inj e
    exact ⟨_, rfl, a⟩
  | _, _, i + 1, _, .cons _ b, e => dpa_get (i := i) b e
theorem dpa_got {H : Hp} : ∀ {xs : List V} {ds : List PyData} {i : Nat} {x : V}, DpAll K H xs ds → xs[i]? = some x → ∃ d, ds[i]? = some d ∧ Dp K H x d
  | _, _, _, _, .nil, e => by simp at e
  | _, _, 0, _, .cons a _, e => by
    cases Option.some.inj e
    exact ⟨_, rfl, a⟩
  | _, _, i + 1, _, .cons _ b, e => dpa_got (i := i) b e
theorem dpa_snoc {H : Hp} {v : V} {d : PyData} (x : Dp K H v d) : ∀ {xs : List V} {ds : List PyData}, DpAll K H xs ds → DpAll K H (xs ++ [v]) (ds ++ [d])
  | _, _, .nil => .cons x .nil
  | _, _, .cons a b => .cons a (dpa_snoc x b)
theorem dpa_one {H : Hp} {xs : List V} {d : PyData} (h : DpAll K H xs [d]) : ∃ v, xs = [v] ∧ Dp K H v d := by
  cases h with
  | cons a b => cases b; exact ⟨_, rfl, a⟩
theorem dpa_two {H : Hp} {xs : List V} {d e : PyData} (h : DpAll K H xs [d, e]) : ∃ v w, xs = [v, w] ∧ Dp K H v d ∧ Dp K H w e := by
  cases h with
  | cons a b => obtain ⟨w, rfl, y⟩ := (dpa_one b); exact ⟨_, _, rfl, a, y⟩
theorem dpa_three {H : Hp} {xs : List V} {d e f : PyData} (h : DpAll K H xs [d, e, f]) : ∃ v w x, xs = [v, w, x] ∧ Dp K H v d ∧ Dp K H w e ∧ Dp K H x f := by
  cases h with
  | cons a b => obtain ⟨w, x, rfl, y, z⟩ := (dpa_two b); exact ⟨_, _, _, rfl, a, y, z⟩
/-- data without None, of a depth below n -/
def plain : Nat → PyData → Prop
  | 0, _ => False
  | _ + 1, .none => False
  | _ + 1, .bool _ => True
  | _ + 1, .int _ => True
  | _ + 1, .str _ => True
  | n + 1, .list ds => ds.length ≤ 1000000 ∧ ∀ d ∈ ds, plain n d
  | n + 1, .tuple ds => ds.length ≤ 1000000 ∧ ∀ d ∈ ds, plain n d
  | _ + 1, .dict _ => False
theorem plain.succ : ∀ {n : Nat} {d : PyData}, plain n d → plain (n + 1) d
  | 0, _, h => h.elim
  | _ + 1, .none, h => h
  | _ + 1, .bool _, _ => trivial
  | _ + 1, .int _, _ => trivial
  | _ + 1, .str _, _ => trivial
  | n + 1, .list ds, h => ⟨h.1, fun d hd => plain.succ (n := n) (h.2 d hd)⟩
  | n + 1, .tuple ds, h => ⟨h.1, fun d hd => plain.succ (n := n) (h.2 d hd)⟩
  | _ + 1, .dict _, h => h
theorem plain.mono {n m : Nat} {d : PyData} (h : plain n d) (k : n ≤ m) : plain m d := by
  obtain ⟨j, rfl⟩ := Nat.le.dest k
  induction j with
  | zero => exact h
  | succ j ih => exact (ih (Nat.le_add_right _ _)).succ
/-- the kind, for isinstance -/
theorem tyL {H : Hp} {a : Addr} {xs : List V} (h : SqL K H a xs) : TyX K H (.ref a) (.type "list") := by
  rcases h with (h | ⟨o', h⟩) | ⟨o, its, n, h, c, _⟩
  · exact .base (.lst h)
  · exact .base (.frz h)
  · exact .kList h c

/-! ### fractions -/
theorem isF_of {H : Hp} {v : V} {r : Rat} (h : Dp K H v (fD r)) : ∃ a, v = .ref a ∧ IsF K H a r := by
  obtain ⟨a, xs, rfl, hs, ha⟩ := dp_tup h
  obtain ⟨v, w, rfl, e1, e2⟩ := dpa_two ha
  cases (dp_int e1)
  cases (dp_int e2)
  exact ⟨a, rfl, hs⟩
def fsD (rs : List Rat) : PyData := .list (rs.map fD)
theorem fsAt_of {H : Hp} {v : V} {rs : List Rat} (h : Dp K H v (fsD rs)) : ∃ l, v = .ref l ∧ FsAt K H l rs := by
  obtain ⟨a, xs, rfl, hs, ha⟩ := dp_lst h
  suffices h : ∀ (xs : List V) (rs : List Rat), DpAll K H xs (rs.map fD) → ∃ as : List Addr, xs = as.map V.ref ∧ Fs K H as rs by
    obtain ⟨as, rfl, f⟩ := h xs rs ha
    exact ⟨a, rfl, as, hs, f⟩
  intro xs rs
  induction rs generalizing xs with
  | nil =>
    intro h
    cases h
    exact ⟨[], rfl, .nil⟩
  | cons r rs ih =>
    intro h
    cases h with
    | cons a b =>
      obtain ⟨x, rfl, hx⟩ := isF_of a
      obtain ⟨as, rfl, f⟩ := ih _ b
      refine ⟨x :: as, rfl, by simp [f.1], fun i a q h1 h2 => ?_⟩
      cases i with
      | zero =>
        cases Option.some.inj h1
        cases Option.some.inj h2
        exact hx
      | succ i => exact f.2 i a q h1 h2

theorem mk_numD {p : Int} {q : Nat} (hq : q ≠ 0) (hg : Nat.gcd p.natAbs q = 1) : (Rat.divInt p (q : Int)).num = p ∧ (Rat.divInt p (q : Int)).den = q := by
  have e : Rat.divInt p (q : Int) = ⟨p, q, hq, hg⟩ := by rw [Rat.mk_eq_divInt]
  rw [e]
  exact ⟨rfl, rfl⟩
theorem int_num (n : Int) : (Rat.divInt n 1).num = n ∧ (Rat.divInt n 1).den = 1 := by
  have h := mk_numD (p := n) (q := 1) (by decide) (Nat.gcd_one_right _)
  exact h
theorem int_f {H : Hp} {p : Addr} {n : Int} (h : SqT K H p [.int n, .int 1]) : IsF K H p (Rat.divInt n 1) := by
  unfold IsF
  rw [(int_num n).1, (int_num n).2]
  exact h
theorem ixN_nat {n i : Nat} (h : i < n) : ixN n (i : Int) = some i := by
  unfold ixN
  simp [h]
theorem atI_mod {α : Type} {xs : List α} {n : Int} (hn : 0 < n) (h : (xs.length : Int) = n) (v : Int) : ∃ x, x ∈ xs ∧ atI xs (v % n) = some x := by
  obtain ⟨k, ek⟩ := Int.eq_ofNat_of_zero_le (Int.emod_nonneg v (show n ≠ 0 by omega))
  have h1 := Int.emod_lt_of_pos v hn
  have hk : k < xs.length := by omega
  refine ⟨xs[k], List.getElem_mem hk, ?_⟩
  rw [ek]
  exact atI_nat (List.getElem?_eq_getElem hk)
theorem atI_last {α : Type} {xs : List α} {x : α} (h : xs[xs.length - 1]? = some x) : atI xs (-1) = some x := by
  have hl := (List.getElem?_eq_some_iff.mp h).1
  unfold atI ixN
  rw [if_neg (by decide), if_pos (by omega)]
  show xs[(-1 + (xs.length : Int)).toNat]? = some x
  rw [show (-1 + (xs.length : Int)).toNat = xs.length - 1 by omega]
  exact h
/-! ### what is new -/
/-- not there, or a tuple: what no one changes -/
def soft : Option HO → Bool
  | none => true
  | some (.tup _) => true
  | some (.frz _ (.tup _)) => true
  | _ => false
/-- the part of H' that H does not know, with its tuples -/
def fresh (H H' : Hp) : Hp := fun b => if soft (H b) = true then H' b else none
theorem fresh_sub {H H' : Hp} : Same (fresh H H') H' := fun b o e => by
  unfold fresh at e
  split at e
  · exact e
  · cases e
theorem fresh_soft {H H' : Hp} {b : Addr} (h : soft (H b) = true) : fresh H H' b = H' b := if_pos h
theorem fresh_at {H H' : Hp} {b : Addr} (h : H b = none) : fresh H H' b = H' b := fresh_soft (by rw [h]; rfl)
theorem fresh_hard {H H' : Hp} {b : Addr} (h : soft (H b) = false) : fresh H H' b = none := if_neg (by rw [h]; exact Bool.noConfusion)
theorem soft_old {H₀ H : Hp} (e : Same H₀ H) {b : Addr} (h : soft (H b) = true) : soft (H₀ b) = true := by
  cases z : H₀ b with
  | none => rfl
  | some o =>
    rw [e _ _ z] at h
    exact h
theorem fresh_mono {H H1 H2 : Hp} (e : Same H1 H2) : Same (fresh H H1) (fresh H H2) := fun b o q => by
  cases z : soft (H b) with
  | true =>
    rw [fresh_soft z] at q ⊢
    exact e _ _ q
  | false =>
    rw [fresh_hard z] at q
    cases q
theorem fresh_old {H₀ H H' : Hp} (e : Same H₀ H) : Same (fresh H H') (fresh H₀ H') := fun b o q => by
  cases z : soft (H b) with
  | true =>
    rw [fresh_soft z] at q
    rw [fresh_soft (soft_old e z)]
    exact q
  | false =>
    rw [fresh_hard z] at q
    cases q
/-- a result that is wholly new -/
def rD (K : PySem.W.Frag) (H : Hp) (d : PyData) (Q : VK) : Prop := ∀ (H' : Hp) (v : V), Same H H' → Dp K (fresh H H') v d → Q v H'
/-- .. without the things at Ds -/
def but (H : Hp) (Ds : List Addr) : Hp := fun b => if b ∈ Ds then none else H b
theorem but_sub {H : Hp} {Ds : List Addr} : Same (but H Ds) H := fun b o e => by
  unfold but at e
  split at e
  · cases e
  · exact e
theorem but_mono {H H' : Hp} {Ds : List Addr} (e : Same H H') : Same (but H Ds) (but H' Ds) := fun b o q => by
  unfold but at q ⊢
  split at q
  · cases q
  · rename_i z; rw [if_neg z]; exact e _ _ q
theorem but_at {H : Hp} {Ds : List Addr} {b : Addr} (h : b ∉ Ds) : but H Ds b = H b := if_neg h
theorem but_upd {H₀ H : Hp} {Ds : List Addr} {D : Addr} {o : HO} (hD : D ∈ Ds) : but (fresh H₀ (upd H D o)) Ds = but (fresh H₀ H) Ds := by
  funext b
  unfold but fresh
  split
  · rfl
  · rename_i z
    split
    · rw [upd_ne (fun q => z (by rw [q]; exact hD))]
    · rfl
/-- what a call made new stands apart from what grows -/
theorem new_in {H₀ H H' : Hp} {Ds : List Addr} {v : V} {d : PyData} (e : Same H₀ H) (hD : ∀ D ∈ Ds, soft (H D) = false) (h : Dp K (fresh H H') v d) : Dp K (but (fresh H₀ H') Ds) v d := by
  refine dp_same (fun b o q => ?_) h
  cases z : soft (H b) with
  | false =>
    rw [fresh_hard z] at q
    cases q
  | true =>
    rw [but_at (fun y => by rw [hD b y] at z; cases z)]
    exact fresh_old e b o q
/-- a list at D that grows, over H₀, beside the others at Ds -/
def Gr (K : PySem.W.Frag) (H₀ H : Hp) (Ds : List Addr) (D : Addr) (ds : List PyData) : Prop :=
  D ∈ Ds ∧ H₀ D = none ∧ ∃ xs, H D = some (.lst xs) ∧ DpAll K (but (fresh H₀ H) Ds) xs ds
theorem Gr.same {H₀ H H' : Hp} {Ds : List Addr} {D : Addr} {ds : List PyData} (e : Same H H') (g : Gr K H₀ H Ds D ds) : Gr K H₀ H' Ds D ds :=
  let ⟨a, b, xs, h, c⟩ := g; ⟨a, b, xs, e _ _ h, dpa_same (but_mono (fresh_mono e)) c⟩
theorem Gr.hard {H₀ H : Hp} {Ds : List Addr} {D : Addr} {ds : List PyData} (g : Gr K H₀ H Ds D ds) : soft (H D) = false := by
  obtain ⟨_, _, xs, h, _⟩ := g
  rw [h]
  rfl
theorem Gr.len {H₀ H : Hp} {Ds : List Addr} {D : Addr} {ds : List PyData} {xs : List V} (g : Gr K H₀ H Ds D ds) (h : H D = some (.lst xs)) : xs.length = ds.length := by
  obtain ⟨_, _, ys, h2, c⟩ := g
  rw [h] at h2
  cases h2
  exact dpa_len c
theorem Gr.push {H₀ H : Hp} {Ds : List Addr} {D : Addr} {ds : List PyData} {v : V} {d : PyData} (g : Gr K H₀ H Ds D ds) (x : Dp K (but (fresh H₀ H) Ds) v d) (hl : ds.length ≤ 1000) :
    ∃ xs, H D = some (.lst xs) ∧ xs.length < sizeLine ∧ Gr K H₀ (upd H D (.lst (xs ++ [v]))) Ds D (ds ++ [d]) := by
  obtain ⟨a, b, xs, h, c⟩ := g
  refine ⟨xs, h, by rw [dpa_len c]; exact small1000 hl, a, b, xs ++ [v], upd_same, ?_⟩
  rw [but_upd a]
  exact dpa_snoc x c
theorem Gr.other {H₀ H : Hp} {Ds : List Addr} {D D' : Addr} {ds : List PyData} {o : HO} (g : Gr K H₀ H Ds D ds) (hD : D' ∈ Ds) (hne : D ≠ D') : Gr K H₀ (upd H D' o) Ds D ds := by
  obtain ⟨a, b, xs, h, c⟩ := g
  refine ⟨a, b, xs, by rw [upd_ne hne]; exact h, ?_⟩
  rw [but_upd hD]
  exact c
theorem Gr.start {H₀ H : Hp} {Ds : List Addr} {D : Addr} (e : Same H₀ H) (h : H D = none) (hD : D ∈ Ds) : Gr K H₀ (upd H D (.lst [])) Ds D [] := ⟨hD, e.free h, [], upd_same, .nil⟩
theorem Gr.seq {H₀ H : Hp} {Ds : List Addr} {D : Addr} {ds : List PyData} (g : Gr K H₀ H Ds D ds) : ∃ xs, SqL K H D xs ∧ DpAll K H xs ds :=
  let ⟨_, _, xs, h, c⟩ := g; ⟨xs, SqL.of h, dpa_same (but_sub.trans fresh_sub) c⟩
theorem Gr.done {H₀ H : Hp} {Ds : List Addr} {D : Addr} {ds : List PyData} (g : Gr K H₀ H Ds D ds) : Dp K (fresh H₀ H) (.ref D) (.list ds) := by
  obtain ⟨a, b, xs, h, c⟩ := g
  exact .lst (SqL.of (by rw [fresh_at b]; exact h)) (dpa_same but_sub c)
theorem dpa_set {H : Hp} {v : V} {d : PyData} (x : Dp K H v d) : ∀ {xs : List V} {ds : List PyData} {i : Nat}, DpAll K H xs ds → DpAll K H (xs.set i v) (ds.set i d)
  | _, _, _, .nil => .nil
  | _, _, 0, .cons _ b => .cons x b
  | _, _, i + 1, .cons a b => .cons a (dpa_set x b)
theorem Gr.put {H₀ H : Hp} {Ds : List Addr} {D : Addr} {ds : List PyData} {v : V} {d : PyData} {xs : List V} {i : Nat} (g : Gr K H₀ H Ds D ds) (h : H D = some (.lst xs)) (x : Dp K (but (fresh H₀ H) Ds) v d) : Gr K H₀ (upd H D (.lst (xs.set i v))) Ds D (ds.set i d) := by
  obtain ⟨a, b, ys, h2, c⟩ := g
  rw [h] at h2
  cases h2
  refine ⟨a, b, xs.set i v, upd_same, ?_⟩
  rw [but_upd a]
  exact dpa_set x c
theorem but_cons {H : Hp} {D : Addr} {Ds : List Addr} : Same (but H (D :: Ds)) (but H Ds) := fun b o e => by
  by_cases z : b ∈ Ds
  · have : but H (D :: Ds) b = none := if_pos (List.mem_cons_of_mem _ z)
    rw [this] at e
    cases e
  · rw [but_at z]
    exact but_sub b o e
/-- done, beside what goes on -/
theorem Gr.done2 {H₀ H : Hp} {Ds : List Addr} {D : Addr} {ds : List PyData} (g : Gr K H₀ H (D :: Ds) D ds) (hD : D ∉ Ds) : Dp K (but (fresh H₀ H) Ds) (.ref D) (.list ds) := by
  obtain ⟨a, b, xs, h, c⟩ := g
  exact .lst (SqL.of (by rw [but_at hD, fresh_at b]; exact h)) (dpa_same but_cons c)
/-- a new tuple, a new list of new things -/
theorem new_tup {H₀ H : Hp} {p : Addr} {xs : List V} {ds : List PyData} (e : Same H₀ H) (h : H p = none) (c : DpAll K (fresh H₀ H) xs ds) : Dp K (fresh H₀ (upd H p (.tup xs))) (.ref p) (.tuple ds) :=
  .tup (SqT.of (by rw [fresh_at (e.free h)]; exact upd_same)) (dpa_same (fresh_mono (same_upd h)) c)
theorem new_lst {H₀ H : Hp} {p : Addr} {xs : List V} {ds : List PyData} (e : Same H₀ H) (h : H p = none) (c : DpAll K (fresh H₀ H) xs ds) : Dp K (fresh H₀ (upd H p (.lst xs))) (.ref p) (.list ds) :=
  .lst (SqL.of (by rw [fresh_at (e.free h)]; exact upd_same)) (dpa_same (fresh_mono (same_upd h)) c)

/-- a tuple is as good as new -/
theorem sqt_fresh {H H' : Hp} {a : Addr} {xs : List V} (e : Same H H') (h : SqT K H' a xs) : SqT K (fresh H H') a xs := by
  have key : ∀ o, soft (some o) = true → H' a = some o → fresh H H' a = some o := fun o so ho => by
    rw [fresh_soft (soft_old e (by rw [ho]; exact so)), ho]
  rcases h with (h | ⟨o', h⟩) | h
  · exact .inl (.inl (key _ rfl h))
  · exact .inl (.inr ⟨o', key _ rfl h⟩)
  · exact .inr h
theorem new_f {H H' : Hp} {a : Addr} {r : Rat} (e : Same H H') (h : IsF K H' a r) : Dp K (fresh H H') (.ref a) (fD r) := .tup (sqt_fresh e h) (.cons (.int _) (.cons (.int _) .nil))
theorem Fs.fresh {H H' : Hp} {as : List Addr} {rs : List Rat} (e : Same H H') (h : Fs K H' as rs) : Fs K (fresh H H') as rs := ⟨h.1, fun i a r h1 h2 => sqt_fresh e (h.2 i a r h1 h2)⟩
/-- a new list of fractions that stood -/
theorem new_fs {H₀ H : Hp} {p : Addr} {as : List Addr} {rs : List Rat} (e : Same H₀ H) (h : H p = none) (c : Fs K H as rs) : Dp K (BB.fresh H₀ (upd H p (.lst (as.map V.ref)))) (.ref p) (fsD rs) := new_lst e h (dpAll_f as rs (c.fresh e))
theorem sqt_grow {H₀ H : Hp} {Ds : List Addr} {a : Addr} {xs : List V} (e : Same H₀ H) (hD : ∀ D ∈ Ds, soft (H D) = false) (h : SqT K H a xs) : SqT K (but (BB.fresh H₀ H) Ds) a xs := by
  have h2 := sqt_fresh e h
  have key : ∀ o, soft (some o) = true → BB.fresh H₀ H a = some o → but (BB.fresh H₀ H) Ds a = some o := fun o so ho => by
    refine Eq.trans (but_at fun y => ?_) ho
    have := hD a y
    rw [fresh_sub a o ho, so] at this
    cases this
  rcases h2 with (h | ⟨o', h⟩) | h
  · exact .inl (.inl (key _ rfl h))
  · exact .inl (.inr ⟨o', key _ rfl h⟩)
  · exact .inr h
/-- .. beside what grows -/
theorem grow_f {H₀ H : Hp} {Ds : List Addr} {a : Addr} {r : Rat} (e : Same H₀ H) (hD : ∀ D ∈ Ds, soft (H D) = false) (h : IsF K H a r) : Dp K (but (fresh H₀ H) Ds) (.ref a) (fD r) := by
  have h2 := sqt_fresh e h
  have key : ∀ o, soft (some o) = true → fresh H₀ H a = some o → but (fresh H₀ H) Ds a = some o := fun o so ho => by
    refine Eq.trans (but_at fun y => ?_) ho
    have := hD a y
    rw [fresh_sub a o ho, so] at this
    cases this
  refine .tup ?_ (.cons (.int _) (.cons (.int _) .nil))
  rcases h2 with (h | ⟨o', h⟩) | h
  · exact .inl (.inl (key _ rfl h))
  · exact .inl (.inr ⟨o', key _ rfl h⟩)
  · exact .inr h

/-- a new tuple, beside what grows -/
theorem grow_tup {H₀ H : Hp} {Ds : List Addr} {p : Addr} {xs : List V} {ds : List PyData} (e : Same H₀ H) (hD : ∀ D ∈ Ds, soft (H D) = false) (h : H p = none) (c : DpAll K (but (fresh H₀ H) Ds) xs ds) : Dp K (but (fresh H₀ (upd H p (.tup xs))) Ds) (.ref p) (.tuple ds) := by
  refine .tup (SqT.of ?_) (dpa_same (but_mono (fresh_mono (same_upd h))) c)
  rw [but_at (fun y => by have := hD p y; rw [h] at this; cases this), fresh_at (e.free h)]
  exact upd_same

/-- a row that stands, beside a list that grows: they are two -/
theorem sql_keep {H : Hp} {a D : Addr} {xs : List V} {o : HO} (hne : a ≠ D) (h : SqL K H a xs) : SqL K (upd H D o) a xs := by
  rcases h with (h | ⟨o', h⟩) | h
  · exact .inl (.inl (by rw [upd_ne hne]; exact h))
  · exact .inl (.inr ⟨o', by rw [upd_ne hne]; exact h⟩)
  · exact .inr h

/-! ### the rules that ask the written part, where the context is bound -/
section
variable {X : Cx} {K : PySem.W.Frag}
theorem ix_listK (h : X.K = K) : IxR X (rIxL K) := by subst h; exact ix_list
theorem ix_tupK (h : X.K = K) : IxR X (rIxT K) := by subst h; exact ix_tup
theorem sl_listK (h : X.K = K) : SlR X (rSlL K) := by subst h; exact sl_list
theorem call_isiK (h : X.K = K) : CallR X (.builtin "isinstance") (rIsi K) := by subst h; exact call_isi
theorem cr_maxK (h : X.K = K) (hc : X.calm = true) : CallR X (.builtin "max") (rMax K) := by subst h; exact cr_max hc
theorem cr_sumK (h : X.K = K) (hc : X.calm = true) : CallR X (.builtin "sum") (rSum K) := by subst h; exact cr_sum hc
theorem call_len_seqK (h : X.K = K) : CallR X (.builtin "len") (fun xs H Q => ∃ p ys, xs = [.ref p] ∧ (SqL K H p ys ∨ SqT K H p ys) ∧ Q (.int ys.length) H) := by subst h; exact call_len_seq
theorem call_list_ofK (h : X.K = K) : CallR X (.type "list") (fun xs H Q => ∃ p ys, xs = [.ref p] ∧ (SqL K H p ys ∨ SqT K H p ys) ∧ ∀ l, H l = none → Q (.ref l) (upd H l (.lst ys))) := by subst h; exact call_list_of
theorem pe_fldK {e : Expr} {f : Str} {ta : TE} {pos : Pos} (h : X.K = K) (he : PE X e ta) (hb : attributeBase e f X.env (eval e X.env) = eval e X.env) : PE X (.Attribute e f pos) (tFld K ta f) := by subst h; exact pe_fld he hb
end

/-- x is True, x a bool or None -/
def rIsBN : R2 := fun x y H Q => ∃ b : Bool, y = .bl b ∧ (x = .non ∨ ∃ a, x = .bl a) ∧ Q (.bl (decide (x = .bl b))) H
def rNotBN : R2 := fun x y H Q => ∃ b : Bool, y = .bl b ∧ (x = .non ∨ ∃ a, x = .bl a) ∧ Q (.bl (!decide (x = .bl b))) H
section
variable {X : Cx}
theorem op_isBN : OpR X (compareOp .Is) rIsBN := by
  intro pins s σ H x y v u Q I rx ry h
  obtain ⟨b, rfl, hx, q⟩ := h
  cases (show u = Value.bool b from ry)
  rcases hx with rfl | ⟨a, rfl⟩
  · cases (show v = Value.none from rx)
    exact wpAny_is_other rfl (fun z => nomatch z) ⟨.bl false, H, I, rfl, by simpa using q⟩
  · cases (show v = Value.bool a from rx)
    by_cases e : a = b
    · subst e
      exact wpAny_is_self rfl ⟨.bl true, H, I, rfl, by simpa using q⟩
    · exact wpAny_is_other rfl (fun z => e (Value.bool.inj z)) ⟨.bl false, H, I, rfl, by simpa [e] using q⟩
theorem op_notBN : OpR X (compareOp .IsNot) rNotBN := by
  intro pins s σ H x y v u Q I rx ry h
  obtain ⟨b, rfl, hx, q⟩ := h
  cases (show u = Value.bool b from ry)
  rcases hx with rfl | ⟨a, rfl⟩
  · cases (show v = Value.none from rx)
    exact wpAny_isNot_other rfl (fun z => nomatch z) ⟨.bl true, H, I, rfl, by simpa using q⟩
  · cases (show v = Value.bool a from rx)
    by_cases e : a = b
    · subst e
      exact wpAny_isNot_self rfl ⟨.bl false, H, I, rfl, by simpa using q⟩
    · exact wpAny_isNot_other rfl (fun z => e (Value.bool.inj z)) ⟨.bl true, H, I, rfl, by simpa [e] using q⟩
end

/-- x[i], x a list or a tuple -/
def rIxS2 (K : PySem.W.Frag) : R2 := fun x y H Q => rIxL K x y H Q ∨ rIxT K x y H Q
theorem ix_seq {X : Cx} : IxR X (rIxS2 X.K) := by
  intro value slice pins s σ H x y v u Q I rx ry h hs
  rcases h with h | h
  · exact ix_list value slice pins s σ H x y v u Q I rx ry h hs
  · exact ix_tup value slice pins s σ H x y v u Q I rx ry h hs
theorem ix_seqK {X : Cx} {K : PySem.W.Frag} (h : X.K = K) : IxR X (rIxS2 K) := by subst h; exact ix_seq
/-- a def of which nothing is promised -/
theorem fnok_no {P : Program} {w : World} {K : PySem.W.Frag} {mg : Str → Option Value} {base : Heap} {CX : CXT} {k : Nat} {f : Addr} {fd : FuncData} {ps : List Str} {sp : Sp} (h : ∀ vs H Q E, ¬ sp vs H Q E) : FnOk P w K mg base CX k f fd ps sp :=
  ⟨fun vs H Q E q => absurd q (h vs H Q E), fun _ _ _ H _ _ vs Q E _ _ _ _ q => absurd q (h vs H Q E)⟩

/-! ### own classes, by name -/
structure DMk (P : Program) (w : World) (K : PySem.W.Frag) (mg : Str → Option Value) (base : Heap) (CX : CXT) (k : Nat) (x : Str) (C : Addr) (sp : Sp) : Prop where
  ex : ∃ (f : Addr) (fd : FuncData) (ps : List Str), Mk K C f ∧ FnOk P w K mg base CX k f fd ps sp ∧ mg x = some (.ref C) ∧ Binds K fd ps []
structure DMe (P : Program) (w : World) (K : PySem.W.Frag) (mg : Str → Option Value) (base : Heap) (CX : CXT) (k : Nat) (C : Addr) (m : Str) (sp : Sp) : Prop where
  c : Cls K C
  ex : ∃ (f : Addr) (fd : FuncData) (ps : List Str), Meth K C m f ∧ FnOk P w K mg base CX k f fd ps sp ∧ Binds K fd ps []
section
variable {X : Cx} {CX : CXT} {x : Str} {p pos : Pos} {e : Expr} {es : List Expr} {t : TA} {sp : Sp} {k j : Nat} {E : XK} {C : Addr}
theorem pe_dmake (c : DMk X.prog X.w X.K X.mg X.base CX k x C sp) (hr : Room j X.A) (hk : k + 1 ≤ j) (hg : Gl X x) (hx : Passes CX X E) (ha : PA X (e :: es) t)
    (hdb : (x == ("__debug__" : Str)) = false := by decide) (he : starEach (e :: es) X.env = (false, eval e X.env) :: starEach es X.env := by rfl) (hpl : (backTo pos (starEach es X.env)).any (·.1) = false := by rfl) :
    PE X (.Call (.Name x p) (e :: es) [] pos) (tMake C sp [] E t) := by
  obtain ⟨f, fd, ps, M, F, hm, b⟩ := c.ex
  exact pe_make M F (hr.mono hk) hg hm b .nil hx ha hdb he hpl
end
section
variable {X : Cx} {CX : CXT} {x : Str} {p pos : Pos} {sp : Sp} {k j : Nat} {E : XK}
theorem pe_d0 (c : Dn X.prog X.w X.K X.mg X.base CX k x sp) (hr : Room j X.A) (hk : k ≤ j) (hg : Gl X x) (hx : Passes CX X E)
    (hdb : (x == ("__debug__" : Str)) = false := by decide) : PE X (.Call (.Name x p) [] [] pos) (tCall sp [] E tNil) := by
  obtain ⟨f, fd, ps, F, hm, kp, b⟩ := c.ex
  exact pe_call0 F (hr.mono hk) hg hm kp b .nil hx hdb
end
theorem putF_len {f : Str} {v : V} : ∀ fs : List (Str × V), (putF f v fs).length ≤ fs.length + 1
  | [] => Nat.le_refl _
  | (g, x) :: r => by
    unfold putF
    split
    · exact Nat.le_succ _
    · rw [List.length_cons, List.length_cons]
      have := putF_len (f := f) (v := v) r
      omega
section
variable {X : Cx} {CX : CXT} {m : Str} {apos pos : Pos} {o e : Expr} {es : List Expr} {ta : TE} {t : TA} {sp : Sp} {k j : Nat} {E : XK} {C : Addr}
theorem pe_dmeth {pl : Sem Bool} (c : DMe X.prog X.w X.K X.mg X.base CX k C m sp) (hr : Room j X.A) (hk : k ≤ j) (he : PE X o ta) (hx : Passes CX X E) (ha : PA X (e :: es) t)
    (hst : starEach (e :: es) X.env = (false, eval e X.env) :: starEach es X.env := by rfl) (hpl : (backTo pos (starEach es X.env)).any (·.1) = false := by rfl)
    (ht : eval (.Call (.Attribute o m apos) (e :: es) [] pos) X.env = (do
      let ov ← eval o X.env
      standAt apos.atName
      let (f, first) ← holding [ov] (getMethod ov m pl)
      callWith pos f first (backTo pos (starEach (e :: es) X.env)) (backToKw pos (keywordEach [] X.env))) := by rfl) :
    PE X (.Call (.Attribute o m apos) (e :: es) [] pos) (tMeth C m sp [] E ta t) := by
  obtain ⟨f, fd, ps, M, F, b⟩ := c.ex
  exact pe_meth he c.c M F (hr.mono hk) b .nil hx ha hst hpl ht
theorem pe_dmeth0 {pl : Sem Bool} (c : DMe X.prog X.w X.K X.mg X.base CX k C m sp) (hr : Room j X.A) (hk : k ≤ j) (he : PE X o ta) (hx : Passes CX X E)
    (ht : eval (.Call (.Attribute o m apos) [] [] pos) X.env = (do
      let ov ← eval o X.env
      standAt apos.atName
      let (f, first) ← holding [ov] (getMethod ov m pl)
      callWith pos f first (backTo pos (starEach [] X.env)) (backToKw pos (keywordEach [] X.env))) := by rfl) :
    PE X (.Call (.Attribute o m apos) [] [] pos) (tMeth C m sp [] E ta tNil) := by
  obtain ⟨f, fd, ps, M, F, b⟩ := c.ex
  exact pe_meth0 he c.c M F (hr.mono hk) b .nil hx ht
end
/-- an object of the class at C whose field n is v -/
def Fld (K : PySem.W.Frag) (H : Hp) (a : Addr) (n : Str) (v : V) : Prop := ∃ C dx fs, H a = some (.ins C dx fs) ∧ Cls K C ∧ NoAttr K C n ∧ fs.lookup n = some v
theorem Fld.same {H H' : Hp} {a : Addr} {n : Str} {v : V} (e : Same H H') (h : Fld K H a n v) : Fld K H' a n v := let ⟨C, dx, fs, h1, h2⟩ := h; ⟨C, dx, fs, e _ _ h1, h2⟩
end BB

set_option maxHeartbeats 4000000
/-! Buys: purchases, links, steps, Data objects. -/
namespace BB
open PySem PySem.Spec PyProof.Rows L2
abbrev Buy := List Rat × List Rat
def bD (b : Buy) : PyData := .tuple [fsD b.1, fsD b.2]
def bsD (bs : List Buy) : PyData := .list (bs.map bD)
abbrev Lnk := Nat × Nat × Bool
def lD (l : Lnk) : PyData := .tuple [.int (l.1 : Int), .int (l.2.1 : Int), .bool l.2.2]
def lsD (ls : List (Nat × Nat × Bool)) : PyData := .list (ls.map lD)
structure okBuy (g : Nat) (b : Buy) : Prop where
  l1 : b.1.length = g
  l2 : b.2.length = g
  p : ∀ r ∈ b.1, 0 < r ∧ Sz 50 r
  a : ∀ r ∈ b.2, 0 ≤ r ∧ Sz 80 r
  n : ∃ r ∈ b.2, 0 < r
/-- the turn's price and amount -/
def midP (K : PySem.W.Frag) (a a2 pP pA : Addr) (g kd i : Int) (H' : Hp) (σ : L2.St) (H2 : Hp) : Prop := Same H' H2 ∧ ∃ (p7 p8 : Addr) (r s : Rat), σ = [some (.ref a), some (.ref a2), some (.int g), some (.int kd), some (.ref pP), some (.ref pA), some (.int i), some (.ref p7), some (.ref p8), none] ∧ IsF K H2 p7 r ∧ 0 < r ∧ Sz 50 r ∧ IsF K H2 p8 s ∧ 0 ≤ s ∧ Sz 80 s
/-- both lists, as they grow -/
def growP (K : PySem.W.Frag) (a a2 pP pA : Addr) (g : Nat) (kd : Int) (H : Hp) (i : Nat) (σ : L2.St) (H2 : Hp) : Prop := Same H H2 ∧ pP ≠ pA ∧ ∃ (y6 y7 y8 : Option V) (ps as : List Rat), σ = [some (.ref a), some (.ref a2), some (.int g), some (.int kd), some (.ref pP), some (.ref pA), y6, y7, y8, none] ∧ Gr K H H2 [pP, pA] pP (ps.map fD) ∧ Gr K H H2 [pP, pA] pA (as.map fD) ∧ ps.length = i ∧ as.length = i ∧ (∀ r ∈ ps, 0 < r ∧ Sz 50 r) ∧ (∀ r ∈ as, 0 ≤ r ∧ Sz 80 r)
structure okData (g most linked : Nat) (bs : List Buy) (ls : List (Nat × Nat × Bool)) : Prop where
  g1 : 1 ≤ g
  g4 : g ≤ 4
  n : bs.length ≤ most
  b : ∀ b ∈ bs, okBuy g b
  m : ls.length ≤ linked
  l : ∀ l ∈ ls, l.1 < bs.length ∧ l.2.1 < bs.length
def dataD (g : Nat) (bs : List Buy) (ls : List (Nat × Nat × Bool)) : PyData := .tuple [.int (g : Int), bsD bs, lsD ls]
/-- a pair, new, that tells r -/
def rP (K : PySem.W.Frag) (H : Hp) (r : Rat) (n : Nat) (Q : VK) : Prop := ∀ (p q : Int) (H' : Hp) (t : Addr), 0 < q → Rat.divInt p q = r → p.natAbs < 2 ^ n → q.natAbs < 2 ^ n → Same H H' → H t = none → SqT K H' t [.int p, .int q] → Q (.ref t) H'
theorem dot_step {p q : Int} {r s c : Rat} (hq : 0 < q) (h : Rat.divInt p q = c) : Rat.divInt (p * ((r.den : Int) * (s.den : Int)) + r.num * s.num * q) (q * ((r.den : Int) * (s.den : Int))) = c + r * s := by
  rw [← h, ← rat_mul r s, Rat.divInt_add_divInt _ _ (Int.ne_of_gt hq) (Int.ne_of_gt (den_mul_pos r s))]
theorem buy_of {K : PySem.W.Frag} {H : Hp} {v : V} {b : Buy} (h : Dp K H v (bD b)) : ∃ t p q, v = .ref t ∧ SqT K H t [.ref p, .ref q] ∧ FsAt K H p b.1 ∧ FsAt K H q b.2 := by
  obtain ⟨t, xs, rfl, ht, hx⟩ := dp_tup h
  obtain ⟨x, y, rfl, h1, h2⟩ := dpa_two hx
  obtain ⟨p, rfl, hp⟩ := fsAt_of h1
  obtain ⟨q, rfl, hq⟩ := fsAt_of h2
  exact ⟨t, p, q, rfl, ht, hp, hq⟩
theorem buys_get {K : PySem.W.Frag} {H : Hp} {v : V} {bs : List Buy} {i : Nat} {b : Buy} (h : Dp K H v (bsD bs)) (e : bs[i]? = some b) : ∃ a xs t p q, v = .ref a ∧ SqL K H a xs ∧ atI xs (i : Int) = some (.ref t) ∧ SqT K H t [.ref p, .ref q] ∧ FsAt K H p b.1 ∧ FsAt K H q b.2 := by
  obtain ⟨a, xs, rfl, hs, hx⟩ := dp_lst h
  obtain ⟨x, ex, hd⟩ := dpa_get (i := i) hx (by rw [List.getElem?_map, e]; rfl)
  obtain ⟨t, p, q, rfl, ht, hp, hq⟩ := buy_of hd
  exact ⟨a, xs, t, p, q, rfl, hs, atI_nat ex, ht, hp, hq⟩
theorem sub_np {a b : Rat} : (a - b ≤ 0 ↔ a ≤ b) ∧ (a - b < 0 ↔ a < b) := by
  constructor <;> constructor <;> intro h <;> grind
def gapR (b : Buy) (ss : List Rat) : Rat := dotR b.1 ss - dotR b.1 b.2
theorem rP_lt {p q : Int} {r : Rat} (hq : 0 < q) (h : Rat.divInt p q = r) : (p < 0 ↔ r < 0) ∧ (p ≤ 0 ↔ r ≤ 0) := by
  subst h
  have h1 := Rat.divInt_nonneg_iff_of_pos_right (a := p) hq
  have h2 : 0 ≤ Rat.divInt (-p) q ↔ 0 ≤ -p := Rat.divInt_nonneg_iff_of_pos_right hq
  rw [← Rat.neg_divInt] at h2
  have h3 : (0 : Rat) ≤ -(Rat.divInt p q) ↔ Rat.divInt p q ≤ 0 := by
    constructor
    · intro h; have := Rat.neg_le_neg h; simpa using this
    · intro h; have := Rat.neg_le_neg h; simpa using this
  refine ⟨?_, ?_⟩
  · rw [← Rat.not_le, h1]; omega
  · rw [← h3, h2]; omega
def opV : Option Bool → V
  | none => .non
  | some b => .bl b
def linkR (i j : Nat) (o : Option Bool) (l : Lnk) : Option Bool := if l.1 = i ∧ l.2.1 = j then some (l.2.2 || decide (o = some true)) else o
def gapO (r : Rat) : Option Bool := if r ≤ 0 then some (decide (r < 0)) else none
def baseR (bs : List Buy) (i j : Nat) : Option Bool := if i = j then none else match bs[i]?, bs[j]? with
  | some b, some c => gapO (gapR b c.2)
  | _, _ => none
def stepR (bs : List Buy) (ls : List Lnk) (i j : Nat) : Option Bool := ls.foldl (linkR i j) (baseR bs i j)
def opD : Option Bool → PyData
  | none => .none
  | some b => .bool b
def tabD (t : List (List (Option Bool))) : PyData := .list (t.map fun r => .list (r.map opD))
def stepsR (bs : List Buy) (ls : List Lnk) : List (List (Option Bool)) := (List.range bs.length).map fun i => (List.range bs.length).map fun j => stepR bs ls i j
theorem dp_op {K : PySem.W.Frag} {H : Hp} : ∀ o : Option Bool, Dp K H (opV o) (opD o)
  | none => .non
  | some b => .bl b
/-- a Data object -/
def DataAt (K : PySem.W.Frag) (H : Hp) (a : Addr) (g : Nat) (bs : List Buy) (ls : List Lnk) : Prop := Fld K H a "goods" (.int (g : Int)) ∧ ∃ v w, Fld K H a "buys" v ∧ Dp K H v (bsD bs) ∧ Fld K H a "links" w ∧ Dp K H w (lsD ls)
theorem DataAt.same {K : PySem.W.Frag} {H H' : Hp} {a : Addr} {g : Nat} {bs : List Buy} {ls : List Lnk} (e : Same H H') (h : DataAt K H a g bs ls) : DataAt K H' a g bs ls :=
  let ⟨h1, v, w, h2, h3, h4, h5⟩ := h; ⟨h1.same e, v, w, h2.same e, dp_same e h3, h4.same e, dp_same e h5⟩
theorem plain_f (r : Rat) : plain 2 (fD r) := ⟨(by decide : (2 : Nat) ≤ 1000000), fun d hd => by
  rcases List.mem_cons.mp hd with rfl | hd
  · trivial
  · rw [List.mem_singleton.mp hd]; trivial⟩
theorem plain_fs {rs : List Rat} (h : rs.length ≤ 1000000) : plain 3 (fsD rs) := ⟨(by rw [List.length_map]; exact h), fun d hd => by
  obtain ⟨r, _, rfl⟩ := List.mem_map.mp hd
  exact plain_f r⟩
theorem plain_b {b : Buy} (h1 : b.1.length ≤ 1000000) (h2 : b.2.length ≤ 1000000) : plain 4 (bD b) := ⟨(by decide : (2 : Nat) ≤ 1000000), fun d hd => by
  rcases List.mem_cons.mp hd with rfl | hd
  · exact plain_fs h1
  · rw [List.mem_singleton.mp hd]; exact plain_fs h2⟩
theorem plain_bs {g : Nat} {bs : List Buy} (hg : g ≤ 1000000) (h : bs.length ≤ 1000000) (ok : ∀ b ∈ bs, okBuy g b) : plain 5 (bsD bs) := ⟨(by rw [List.length_map]; exact h), fun d hd => by
  obtain ⟨b, hb, rfl⟩ := List.mem_map.mp hd
  exact plain_b (by rw [(ok b hb).l1]; exact hg) (by rw [(ok b hb).l2]; exact hg)⟩
theorem plain_l (l : Lnk) : plain 2 (lD l) := ⟨(by decide : (3 : Nat) ≤ 1000000), fun d hd => by
  rcases List.mem_cons.mp hd with rfl | hd
  · trivial
  rcases List.mem_cons.mp hd with rfl | hd
  · trivial
  rw [List.mem_singleton.mp hd]; trivial⟩
theorem plain_ls {ls : List Lnk} (h : ls.length ≤ 1000000) : plain 3 (lsD ls) := ⟨(by rw [List.length_map]; exact h), fun d hd => by
  obtain ⟨l, _, rfl⟩ := List.mem_map.mp hd
  exact plain_l l⟩
theorem op_of {K : PySem.W.Frag} {H : Hp} {v : V} : ∀ {o : Option Bool}, Dp K H v (opD o) → v = opV o
  | none, h => dp_non h
  | some _, h => dp_bl h
theorem tab_get {K : PySem.W.Frag} {H : Hp} {v : V} {T : List (List (Option Bool))} {i j : Nat} {r : List (Option Bool)} {o : Option Bool} (h : Dp K H v (tabD T)) (e : T[i]? = some r) (f : r[j]? = some o) :
    ∃ a xs b ys, v = .ref a ∧ SqL K H a xs ∧ atI xs (i : Int) = some (.ref b) ∧ SqL K H b ys ∧ atI ys (j : Int) = some (opV o) := by
  obtain ⟨a, xs, rfl, hs, hx⟩ := dp_lst h
  obtain ⟨x, ex, hd⟩ := dpa_get (i := i) hx (by rw [List.getElem?_map, e]; rfl)
  obtain ⟨b, ys, rfl, ht, hy⟩ := dp_lst hd
  obtain ⟨y, ey, he⟩ := dpa_get (i := j) hy (by rw [List.getElem?_map, f]; rfl)
  cases op_of he
  exact ⟨a, xs, b, ys, rfl, hs, atI_nat ex, ht, atI_nat ey⟩
/-- the steps that a table tells -/
def tabS (T : List (List (Option Bool))) (i j : Nat) : Option Bool := match T[i]? with
  | some r => match r[j]? with
    | some o => o
    | none => none
  | none => none
theorem steps_get {bs : List Buy} {ls : List Lnk} {i j : Nat} (hi : i < bs.length) (hj : j < bs.length) : (stepsR bs ls)[i]? = some ((List.range bs.length).map fun j => stepR bs ls i j) ∧ ((List.range bs.length).map fun j => stepR bs ls i j)[j]? = some (stepR bs ls i j) := by
  refine ⟨?_, ?_⟩
  · unfold stepsR
    rw [List.getElem?_map, List.getElem?_range hi]
    rfl
  · rw [List.getElem?_map, List.getElem?_range hj]
    rfl
theorem grow_l {K : PySem.W.Frag} {H₀ H : Hp} {Ds : List Addr} {v : V} {l : Lnk} (e : Same H₀ H) (hD : ∀ D ∈ Ds, soft (H D) = false) (h : Dp K H v (lD l)) : Dp K (but (fresh H₀ H) Ds) v (lD l) := by
  obtain ⟨t, xs, rfl, ht, hx⟩ := dp_tup h
  obtain ⟨x, y, z, rfl, h1, h2, h3⟩ := dpa_three hx
  cases dp_int h1
  cases dp_int h2
  cases dp_bl h3
  exact .tup (sqt_grow e hD ht) (.cons (.int _) (.cons (.int _) (.cons (.bl _) .nil)))
theorem grow_ls {K : PySem.W.Frag} {H₀ H : Hp} {Ds : List Addr} (e : Same H₀ H) (hD : ∀ D ∈ Ds, soft (H D) = false) : ∀ {ls : List Lnk} {vs : List V}, DpAll K H vs (ls.map lD) → DpAll K (but (fresh H₀ H) Ds) vs (ls.map lD)
  | [], _, h => by cases h; exact .nil
  | l :: ls, _, h => by
    cases h with
    | cons a b => exact .cons (grow_l e hD a) (grow_ls e hD b)
/-- a Data object, its lists new -/
def DataN (K : PySem.W.Frag) (H₀ H : Hp) (a : Addr) (g : Nat) (bs : List Buy) (ls : List Lnk) : Prop := Fld K H a "goods" (.int (g : Int)) ∧ ∃ v w, Fld K H a "buys" v ∧ Dp K (fresh H₀ H) v (bsD bs) ∧ Fld K H a "links" w ∧ Dp K (fresh H₀ H) w (lsD ls)
theorem DataN.old {K : PySem.W.Frag} {H₀ H₁ H : Hp} {a : Addr} {g : Nat} {bs : List Buy} {ls : List Lnk} (e : Same H₀ H₁) (h : DataN K H₁ H a g bs ls) : DataN K H₀ H a g bs ls :=
  let ⟨h1, v, w, h2, h3, h4, h5⟩ := h; ⟨h1, v, w, h2, dp_same (fresh_old e) h3, h4, dp_same (fresh_old e) h5⟩
theorem DataN.at {K : PySem.W.Frag} {H₀ H : Hp} {a : Addr} {g : Nat} {bs : List Buy} {ls : List Lnk} (h : DataN K H₀ H a g bs ls) : DataAt K H a g bs ls :=
  let ⟨h1, v, w, h2, h3, h4, h5⟩ := h; ⟨h1, v, w, h2, dp_same fresh_sub h3, h4, dp_same fresh_sub h5⟩
theorem tab_at {K : PySem.W.Frag} {H : Hp} {xs : List V} {T : List (List (Option Bool))} {i j : Nat} (hx : DpAll K H xs (T.map fun r => PyData.list (r.map opD))) (hi : i < T.length) (hr : ∀ r ∈ T, j < r.length) :
    ∃ b ys, atI xs (i : Int) = some (.ref b) ∧ SqL K H b ys ∧ atI ys (j : Int) = some (opV (tabS T i j)) := by
  have e : T[i]? = some T[i] := List.getElem?_eq_getElem hi
  have hj := hr _ (List.getElem_mem hi)
  have f : T[i][j]? = some T[i][j] := List.getElem?_eq_getElem hj
  obtain ⟨x, ex, hd⟩ := dpa_get (i := i) hx (by rw [List.getElem?_map, e]; rfl)
  obtain ⟨b, ys, rfl, ht, hy⟩ := dp_lst hd
  obtain ⟨y, ey, he⟩ := dpa_get (i := j) hy (by rw [List.getElem?_map, f]; rfl)
  cases op_of he
  refine ⟨b, ys, atI_nat ex, ht, ?_⟩
  unfold tabS
  rw [e]
  simp only
  rw [f]
  exact atI_nat ey
/-! ### a table of answers, as it is filled -/
structure TabAt (K : PySem.W.Frag) (H₀ H : Hp) (pT : Addr) (rows : List Addr) (T : List (List (Option Bool))) : Prop where
  new : H₀ pT = none
  same : Same H₀ H
  len : rows.length = T.length
  inj : ∀ (m m' : Nat) (a : Addr), rows[m]? = some a → rows[m']? = some a → m = m'
  apart : ∀ a ∈ rows, a ≠ pT ∧ H₀ a = none
  tab : H pT = some (.lst (rows.map V.ref))
  row : ∀ (m : Nat) (a : Addr) (r : List (Option Bool)), rows[m]? = some a → T[m]? = some r → H a = some (.lst (r.map opV))
theorem TabAt.grown {K : PySem.W.Frag} {H₀ H H' : Hp} {pT : Addr} {rows : List Addr} {T : List (List (Option Bool))} (t : TabAt K H₀ H pT rows T) (e : Same H H') : TabAt K H₀ H' pT rows T :=
  ⟨t.new, t.same.trans e, t.len, t.inj, t.apart, e _ _ t.tab, fun m a r h1 h2 => e _ _ (t.row m a r h1 h2)⟩
theorem TabAt.start {K : PySem.W.Frag} {H : Hp} {D : Addr} (h : H D = none) : TabAt K H (upd H D (.lst [])) D [] [] :=
  ⟨h, same_upd h, rfl, (fun m m' a h1 => by simp at h1), (fun a ha => nomatch ha), upd_same, (fun m a r h1 => by simp at h1)⟩
theorem TabAt.push {K : PySem.W.Frag} {H₀ H : Hp} {pT D : Addr} {rows : List Addr} {T : List (List (Option Bool))} {r : List (Option Bool)} (t : TabAt K H₀ H pT rows T) (n0 : H₀ D = none) (nD : D ≠ pT) (nr : D ∉ rows) (e : H D = some (.lst (r.map opV))) : TabAt K H₀ (upd H pT (.lst (rows.map V.ref ++ [.ref D]))) pT (rows ++ [D]) (T ++ [r]) := by
  have hl := t.len
  refine ⟨t.new, same_mut t.same t.new, by rw [List.length_append, List.length_append, t.len]; rfl, fun m m' a h1 h2 => ?_, fun a ha => ?_, by rw [upd_same, List.map_append]; rfl, fun m a q h1 h2 => ?_⟩
  · rw [List.getElem?_append] at h1 h2
    split at h1 <;> split at h2
    · exact t.inj m m' a h1 h2
    · rename_i k1 k2
      have h3 := List.mem_of_getElem? h2
      rw [List.mem_singleton.mp h3] at h1
      exact absurd (List.mem_of_getElem? h1) nr
    · rename_i k1 k2
      have h3 := List.mem_of_getElem? h1
      rw [List.mem_singleton.mp h3] at h2
      exact absurd (List.mem_of_getElem? h2) nr
    · have k1 := (List.getElem?_eq_some_iff.mp h1).1
      have k2 := (List.getElem?_eq_some_iff.mp h2).1
      rw [List.length_singleton] at k1 k2
      omega
  · rcases List.mem_append.mp ha with ha | ha
    · exact t.apart a ha
    · rw [List.mem_singleton.mp ha]; exact ⟨nD, n0⟩
  · rw [List.getElem?_append] at h1 h2
    split at h1
    · rename_i k
      rw [if_pos (by omega)] at h2
      rw [upd_ne (t.apart a (List.mem_of_getElem? h1)).1]
      exact t.row m a q h1 h2
    · rename_i k
      rw [if_neg (by omega)] at h2
      have h3 := List.mem_of_getElem? h1
      have h4 := List.mem_of_getElem? h2
      rw [List.mem_singleton.mp h3, List.mem_singleton.mp h4, upd_ne nD]
      exact e
theorem TabAt.put {K : PySem.W.Frag} {H₀ H : Hp} {pT a : Addr} {rows : List Addr} {T : List (List (Option Bool))} {r : List (Option Bool)} {m k : Nat} {o : Option Bool} (t : TabAt K H₀ H pT rows T) (h1 : rows[m]? = some a) (h2 : T[m]? = some r) : TabAt K H₀ (upd H a (.lst ((r.map opV).set k (opV o)))) pT rows (T.set m (r.set k o)) := by
  have ha := t.apart a (List.mem_of_getElem? h1)
  refine ⟨t.new, same_mut t.same ha.2, by rw [List.length_set, t.len], t.inj, t.apart, by rw [upd_ne ha.1.symm]; exact t.tab, fun m' a' r' g1 g2 => ?_⟩
  rw [List.getElem?_set] at g2
  by_cases e : m = m'
  · subst e
    rw [if_pos rfl, if_pos (List.getElem?_eq_some_iff.mp h2).1] at g2
    rw [h1] at g1
    cases Option.some.inj g1
    cases Option.some.inj g2
    rw [upd_same, List.map_set]
  · rw [if_neg e] at g2
    rw [upd_ne (fun z => e (t.inj m m' a h1 (by rw [← z]; exact g1)))]
    exact t.row m' a' r' g1 g2
theorem TabAt.done {K : PySem.W.Frag} {H₀ H : Hp} {pT : Addr} {rows : List Addr} {T : List (List (Option Bool))} (t : TabAt K H₀ H pT rows T) : Dp K (fresh H₀ H) (.ref pT) (tabD T) := by
  have key : ∀ (rows : List Addr) (T : List (List (Option Bool))), rows.length = T.length → (∀ a ∈ rows, H₀ a = none) → (∀ (m : Nat) (a : Addr) (r : List (Option Bool)), rows[m]? = some a → T[m]? = some r → H a = some (.lst (r.map opV))) → DpAll K (fresh H₀ H) (rows.map V.ref) (T.map fun r => PyData.list (r.map opD)) := by
    intro rows
    induction rows with
    | nil =>
      intro T hl _ _
      cases T with
      | nil => exact .nil
      | cons _ _ => cases hl
    | cons a rows ih =>
      intro T hl h0 hr
      cases T with
      | nil => cases hl
      | cons r T =>
        refine .cons (.lst (SqL.of (by rw [fresh_at (h0 a List.mem_cons_self)]; exact hr 0 a r rfl rfl)) ?_) (ih T (Nat.succ.inj hl) (fun b hb => h0 b (List.mem_cons_of_mem _ hb)) fun m b q h1 h2 => hr (m + 1) b q h1 h2)
        induction r with
        | nil => exact .nil
        | cons o r ih2 => exact .cons (dp_op o) (by
            clear ih hr h0 hl ih2
            induction r with
            | nil => exact .nil
            | cons o r ih3 => exact .cons (dp_op o) ih3)
  exact .lst (SqL.of (by rw [fresh_at t.new]; exact t.tab)) (key rows T t.len (fun a ha => (t.apart a ha).2) t.row)
/-! ### chains -/
/-- from one to the next, along xs: none where no step is, otherwise whether one is strict -/
def chainS (S : Nat → Nat → Option Bool) : Bool → List Int → Option Bool
  | st, [] => some st
  | st, [_] => some st
  | st, x :: y :: r => match S x.toNat y.toNat with
    | none => none
    | some b => chainS S (st || b) (y :: r)
def inRange (n : Nat) (xs : List Int) : Bool := xs.all fun x => decide (0 ≤ x) && decide (x < n)
def chainR (S : Nat → Nat → Option Bool) (n : Nat) (xs : List Int) : Option Bool := if xs = [] then none else if inRange n xs = true then chainS S false xs else none
/-- the chain so far: its first k steps -/
theorem chainS_drop {S : Nat → Nat → Option Bool} : ∀ {xs : List Int} {st : Bool} {x y : Int}, xs[0]? = some x → xs[1]? = some y → chainS S st xs = match S x.toNat y.toNat with
    | none => none
    | some b => chainS S (st || b) xs.tail
  | [], _, _, _, h, _ => by simp at h
  | [_], _, _, _, _, h => by simp at h
  | a :: b :: r, st, x, y, h1, h2 => by
    cases Option.some.inj h1
    cases Option.some.inj h2
    rfl
theorem chainS_end {S : Nat → Nat → Option Bool} {st : Bool} : ∀ {xs : List Int}, xs.length ≤ 1 → chainS S st xs = some st
  | [], _ => rfl
  | [_], _ => rfl
  | _ :: _ :: _, h => by simp at h
end BB

set_option maxHeartbeats 4000000
/-! Tst: what planes say. -/
namespace BB
open PySem PySem.Spec PyProof.Rows L2
theorem Fs.at {K : PySem.W.Frag} {H : Hp} {as : List Addr} {rs : List Rat} (h : Fs K H as rs) {i : Nat} {r : Rat} (e : rs[i]? = some r) : ∃ x, (as.map V.ref)[i]? = some (.ref x) ∧ IsF K H x r := by
  obtain ⟨x, r', h1, h2, h3, h4⟩ := h.get (List.getElem?_eq_some_iff.mp e).1
  rw [e] at h3
  cases Option.some.inj h3
  exact ⟨x, h2, h4⟩
def leastR : List Rat → Rat
  | [] => 0
  | x :: xs => xs.foldl (fun l s => if s < l then s else l) x
theorem leastR_snoc {xs : List Rat} {y : Rat} (h : xs ≠ []) : leastR (xs ++ [y]) = if y < leastR xs then y else leastR xs := by
  cases xs with
  | nil => exact absurd rfl h
  | cons x xs =>
    show (xs ++ [y]).foldl _ x = _
    rw [List.foldl_append]
    rfl
theorem leastR_mem : ∀ {xs : List Rat}, xs ≠ [] → leastR xs ∈ xs := by
  intro xs h
  cases xs with
  | nil => exact absurd rfl h
  | cons x xs =>
    have key : ∀ (xs : List Rat) (x : Rat), xs.foldl (fun l s => if s < l then s else l) x ∈ x :: xs := by
      intro xs
      induction xs with
      | nil => intro x; exact List.mem_singleton.mpr rfl
      | cons y ys ih =>
        intro x
        show ys.foldl _ (if y < x then y else x) ∈ _
        split
        · exact List.mem_cons_of_mem _ (ih y)
        · rcases List.mem_cons.mp (ih x) with e | e
          · rw [e]; exact List.mem_cons_self
          · exact List.mem_cons_of_mem _ (List.mem_cons_of_mem _ e)
    exact key xs x
def planesR (bs : List Buy) (ns ws ss : List Rat) : List Rat := (bs.zip (ns.zip ws)).map fun x => x.2.1 + x.2.2 * gapR x.1 ss
theorem planesR_at {bs : List Buy} {ns ws ss : List Rat} {i : Nat} {b : Buy} {n w : Rat} (h1 : bs[i]? = some b) (h2 : ns[i]? = some n) (h3 : ws[i]? = some w) : (planesR bs ns ws ss)[i]? = some (n + w * gapR b ss) := by
  have z2 : (ns.zip ws)[i]? = some (n, w) := List.getElem?_zip_eq_some.mpr ⟨h2, h3⟩
  have z1 : (bs.zip (ns.zip ws))[i]? = some (b, n, w) := List.getElem?_zip_eq_some.mpr ⟨h1, z2⟩
  unfold planesR
  rw [List.getElem?_map, z1]
  rfl
theorem planesR_len {bs : List Buy} {ns ws ss : List Rat} (h1 : ns.length = bs.length) (h2 : ws.length = bs.length) : (planesR bs ns ws ss).length = bs.length := by
  unfold planesR
  rw [List.length_map, List.length_zip, List.length_zip]
  omega
theorem take_snoc {α : Type} {xs : List α} {i : Nat} {x : α} (h : xs[i]? = some x) : xs.take (i + 1) = xs.take i ++ [x] := by rw [List.take_add_one, h]; rfl
theorem take_ne {α : Type} {xs : List α} {i : Nat} (h : 0 < i) (h2 : 0 < xs.length) : xs.take i ≠ [] := fun z => by
  have := congrArg List.length z
  rw [List.length_take, List.length_nil] at this
  omega
theorem over_lt {p q u v : Int} (hq : 0 < q) (hv : 0 < v) : p * v - u * q < 0 ↔ Rat.divInt p q < Rat.divInt u v := by
  have e := Rat.divInt_sub_divInt p u (Int.ne_of_gt hq) (Int.ne_of_gt hv)
  have h := (rP_lt (Int.mul_pos hq hv) e.symm).1
  rw [h, sub_np.2]
theorem over_eq {p q u v : Int} (hq : 0 < q) (hv : 0 < v) (h : Rat.divInt p q = Rat.divInt u v) : p * v - u * q = 0 := by
  have := (Rat.divInt_eq_divInt_iff (Int.ne_of_gt hq) (Int.ne_of_gt hv)).mp h
  omega
theorem dp_keep {K : PySem.W.Frag} {H H1 H2 : Hp} {D : Addr} {v : V} {d : PyData} (e : Same H1 H2) (nD : H1 D = none) (h : Dp K (fresh H H1) v d) : Dp K (but (fresh H H2) [D]) v d := by
  refine dp_same (fun b o q => ?_) h
  have hb : b ≠ D := fun z => by
    rw [z, fresh_at' nD] at q
    cases q
  rw [but_at (by simpa using hb)]
  exact fresh_mono e b o q
where
  fresh_at' {H H1 : Hp} {D : Addr} (nD : H1 D = none) : fresh H H1 D = none := by
    unfold fresh
    split
    · exact nD
    · rfl
/-- a raw pair -/
def rQ (K : PySem.W.Frag) (H : Hp) (p q : Int) (Q : VK) : Prop := ∀ (H' : Hp) (t : Addr), Same H H' → H t = none → SqT K H' t [.int p, .int q] → Q (.ref t) H'
theorem plane_raw {n w r : Rat} {p q : Int} (hq : 0 < q) (e : Rat.divInt p q = r) : Rat.divInt (n.num * (w.den * q) + w.num * p * n.den) (n.den * (w.den * q)) = n + w * r := by
  have e2 : Rat.divInt (w.num * p) (w.den * q) = w * r := by
    rw [← e]
    conv => rhs; lhs; rw [← Rat.num_divInt_den w]
    rw [Rat.divInt_mul_divInt]
  rw [← e2]
  conv => rhs; lhs; rw [← Rat.num_divInt_den n]
  rw [Rat.divInt_add_divInt _ _ (Int.ne_of_gt (den_pos n)) (Int.ne_of_gt (Int.mul_pos (den_pos w) hq))]
/-- a list, among what is new -/
theorem dp_sq {K : PySem.W.Frag} {H H1 : Hp} {a : Addr} {xs : List V} (h : SqL K (fresh H H1) a xs) : SqL K H1 a xs := fresh_sub.seq h
theorem fs_one {K : PySem.W.Frag} {H : Hp} {t : Addr} {r : Rat} (h : IsF K H t r) : Fs K H [t] [r] := by
  refine ⟨rfl, fun i a q h1 h2 => ?_⟩
  have hi := (List.getElem?_eq_some_iff.mp h1).1
  have : i = 0 := by simpa using hi
  subst this
  cases Option.some.inj h1
  cases Option.some.inj h2
  exact h
theorem ok_one : okBuy 1 ([Rat.divInt 2 1], [Rat.divInt 3 1]) := by
  have z2 : (Rat.divInt 2 1) = 2 := by decide +kernel
  have z3 : (Rat.divInt 3 1) = 3 := by decide +kernel
  refine ⟨rfl, rfl, fun r hr => ?_, fun r hr => ?_, ⟨_, List.mem_singleton.mpr rfl, by rw [z3]; decide⟩⟩
  · rw [List.mem_singleton.mp hr]
    exact ⟨by rw [z2]; decide, by rw [(int_num 2).1]; decide, by rw [(int_num 2).2]; decide⟩
  · rw [List.mem_singleton.mp hr]
    exact ⟨by rw [z3]; decide, by rw [(int_num 3).1]; decide, by rw [(int_num 3).2]; decide⟩
theorem keep_but {H H1 H2 : Hp} {D : Addr} (e : Same H1 H2) (nD : H1 D = none) : Same (fresh H H1) (but (fresh H H2) [D]) := fun b o q => by
  have hb : b ≠ D := fun z => by
    rw [z] at q
    unfold fresh at q
    split at q
    · rw [nD] at q; cases q
    · cases q
  rw [but_at (by simpa using hb)]
  exact fresh_mono e b o q
theorem Grow.dp {K : PySem.W.Frag} {H₀ H : Hp} {D : Addr} {rs : List Rat} (g : Grow K H₀ H D rs) : Dp K (fresh H₀ H) (.ref D) (fsD rs) := by
  obtain ⟨n, sm, as, e, f⟩ := g
  exact .lst (SqL.of (by rw [fresh_at n]; exact e)) (dpAll_f as rs (f.fresh sm))
theorem dpa_append {K : PySem.W.Frag} {H : Hp} : ∀ {xs ys : List V} {ds es : List PyData}, DpAll K H xs ds → DpAll K H ys es → DpAll K H (xs ++ ys) (ds ++ es)
  | _, _, _, _, .nil, h => h
  | _, _, _, _, .cons a b, h => .cons a (dpa_append b h)
end BB

/-! own short words of tactics -/
local macro_rules | `(tactic| walk_at "sq") => `(tactic| first
  | assumption
  | (refine sqt_upd (by assumption) ?_; walk_at "sq")
  | (refine sql_upd (by assumption) ?_; walk_at "sq")
  | (refine IsF.new (by assumption) ?_; walk_at "sq")
  | (refine sqt_same (by assumption) ?_; walk_at "sq")
  | (refine Same.seq (by assumption) ?_; walk_at "sq")
  | (refine IsF.same (by assumption) ?_; walk_at "sq"))
local macro_rules | `(tactic| walk_at "go") => `(tactic| repeat (first
  | refine ⟨_, rfl, ?_⟩
  | refine ⟨_, _, rfl, rfl, ?_⟩
  | refine .inl ⟨_, rfl, ?_⟩))

namespace BB
open PySem PySem.Spec PyProof.Rows L2
def topS (i : Nat) : Stmt := PySem.Challenge.pw_buybook_k20_worth_of_a_basket.main.body.getD i (.Pass ⟨0, 0, 0, 0⟩)
abbrev s__law_row : Stmt := topS 18
abbrev N__law_row : List Str := ["_law_script", "_law_place", "_law_many", "_law_cell", "_law_rest", "_law_row_here", "_law_k", "_law_mixed"]
theorem sc__law_row : FnScope N__law_row ["_law_script", "_law_place", "_law_many"] (defScope s__law_row) := ⟨rfl, rfl, rfl, by decide +kernel, rfl, by decide +kernel, by decide +kernel⟩
abbrev s__law_gcd : Stmt := topS 20
abbrev N__law_gcd : List Str := ["_law_a", "_law_b", "_law_k"]
theorem sc__law_gcd : FnScope N__law_gcd ["_law_a", "_law_b"] (defScope s__law_gcd) := ⟨rfl, rfl, rfl, by decide +kernel, rfl, by decide +kernel, by decide +kernel⟩
abbrev s__law_lowest : Stmt := topS 21
abbrev N__law_lowest : List Str := ["_law_p", "_law_q", "_law_common"]
theorem sc__law_lowest : FnScope N__law_lowest ["_law_p", "_law_q"] (defScope s__law_lowest) := ⟨rfl, rfl, rfl, by decide +kernel, rfl, by decide +kernel, by decide +kernel⟩
abbrev s__law_long : Stmt := topS 19
abbrev N__law_long : List Str := ["_law_row_here", "_law_start", "_law_many", "_law_number", "_law_k"]
theorem sc__law_long : FnScope N__law_long ["_law_row_here", "_law_start", "_law_many"] (defScope s__law_long) := ⟨rfl, rfl, rfl, by decide +kernel, rfl, by decide +kernel, by decide +kernel⟩
abbrev s__law_purchase : Stmt := topS 24
abbrev N__law_purchase : List Str := ["_law_row_here", "_law_shape", "_law_goods", "_law_kind", "_law_prices", "_law_amounts", "_law_k", "_law_price", "_law_amount", "_law_x"]
theorem sc__law_purchase : FnScope N__law_purchase ["_law_row_here", "_law_shape", "_law_goods", "_law_kind"] (defScope s__law_purchase) := ⟨rfl, rfl, rfl, by decide +kernel, rfl, by decide +kernel, by decide +kernel⟩
abbrev s__law_data : Stmt := topS 25
abbrev N__law_data : List Str := ["_law_script", "_law_place", "_law_most", "_law_linked", "_law_shape", "_law_goods", "_law_count", "_law_buys", "_law_i", "_law_kind", "_law_links", "_law_row_here", "_law_k"]
theorem sc__law_data : FnScope N__law_data ["_law_script", "_law_place", "_law_most", "_law_linked"] (defScope s__law_data) := ⟨rfl, rfl, rfl, by decide +kernel, rfl, by decide +kernel, by decide +kernel⟩
abbrev s_Data_init : Stmt := inClass (topS 10) 0
abbrev N_Data_init : List Str := ["self", "goods", "buys", "links", "prices", "amounts"]
theorem sc_Data_init : FnScope N_Data_init ["self", "goods", "buys", "links"] (defScope s_Data_init) := ⟨rfl, rfl, rfl, by decide +kernel, rfl, by decide +kernel, by decide +kernel⟩
abbrev s__law_made : Stmt := topS 26
abbrev N__law_made : List Str := ["_law_goods", "_law_buys", "_law_links", "_law_one"]
theorem sc__law_made : FnScope N__law_made ["_law_goods", "_law_buys", "_law_links"] (defScope s__law_made) := ⟨rfl, rfl, rfl, by decide +kernel, rfl, by decide +kernel, by decide +kernel⟩
abbrev s__law_is_integer : Stmt := topS 17
abbrev N__law_is_integer : List Str := ["_law_x"]
theorem sc__law_is_integer : FnScope N__law_is_integer ["_law_x"] (defScope s__law_is_integer) := ⟨rfl, rfl, rfl, by decide +kernel, rfl, by decide +kernel, by decide +kernel⟩
abbrev s__law_same : Stmt := topS 32
abbrev N__law_same : List Str := ["_law_actual", "_law_due", "_law_k"]
theorem sc__law_same : FnScope N__law_same ["_law_actual", "_law_due"] (defScope s__law_same) := ⟨rfl, rfl, rfl, by decide +kernel, rfl, by decide +kernel, by decide +kernel⟩
abbrev s__law_unchanged : Stmt := topS 33
abbrev N__law_unchanged : List Str := ["_law_data_here", "_law_goods", "_law_buys", "_law_links"]
theorem sc__law_unchanged : FnScope N__law_unchanged ["_law_data_here", "_law_goods", "_law_buys", "_law_links"] (defScope s__law_unchanged) := ⟨rfl, rfl, rfl, by decide +kernel, rfl, by decide +kernel, by decide +kernel⟩
abbrev s__law_drawn : Stmt := topS 23
abbrev N__law_drawn : List Str := ["_law_row_here", "_law_p", "_law_q"]
theorem sc__law_drawn : FnScope N__law_drawn ["_law_row_here"] (defScope s__law_drawn) := ⟨rfl, rfl, rfl, by decide +kernel, rfl, by decide +kernel, by decide +kernel⟩
abbrev s_ratio : Stmt := topS 2
abbrev N_ratio : List Str := ["p", "q", "common"]
theorem sc_ratio : FnScope N_ratio ["p", "q"] (defScope s_ratio) := ⟨rfl, rfl, rfl, by decide +kernel, rfl, by decide +kernel, by decide +kernel⟩
abbrev s_sub : Stmt := topS 4
abbrev N_sub : List Str := ["a", "b"]
theorem sc_sub : FnScope N_sub ["a", "b"] (defScope s_sub) := ⟨rfl, rfl, rfl, by decide +kernel, rfl, by decide +kernel, by decide +kernel⟩
abbrev s_add : Stmt := topS 3
abbrev N_add : List Str := ["a", "b"]
theorem sc_add : FnScope N_add ["a", "b"] (defScope s_add) := ⟨rfl, rfl, rfl, by decide +kernel, rfl, by decide +kernel, by decide +kernel⟩
abbrev s_mul : Stmt := topS 5
abbrev N_mul : List Str := ["a", "b"]
theorem sc_mul : FnScope N_mul ["a", "b"] (defScope s_mul) := ⟨rfl, rfl, rfl, by decide +kernel, rfl, by decide +kernel, by decide +kernel⟩
abbrev s_dot : Stmt := topS 8
abbrev N_dot : List Str := ["a", "b", "total", "x", "y"]
theorem sc_dot : FnScope N_dot ["a", "b"] (defScope s_dot) := ⟨rfl, rfl, rfl, by decide +kernel, rfl, by decide +kernel, by decide +kernel⟩
abbrev s_cost : Stmt := topS 11
abbrev N_cost : List Str := ["prices", "amounts"]
theorem sc_cost : FnScope N_cost ["prices", "amounts"] (defScope s_cost) := ⟨rfl, rfl, rfl, by decide +kernel, rfl, by decide +kernel, by decide +kernel⟩
abbrev s_spent : Stmt := topS 12
abbrev N_spent : List Str := ["data", "i", "prices", "amounts"]
theorem sc_spent : FnScope N_spent ["data", "i"] (defScope s_spent) := ⟨rfl, rfl, rfl, by decide +kernel, rfl, by decide +kernel, by decide +kernel⟩
abbrev s_plane : Stmt := topS 14
abbrev N_plane : List Str := ["data", "taste", "i", "basket", "numbers", "weights", "more"]
theorem sc_plane : FnScope N_plane ["data", "taste", "i", "basket"] (defScope s_plane) := ⟨rfl, rfl, rfl, by decide +kernel, rfl, by decide +kernel, by decide +kernel⟩
abbrev s_less : Stmt := topS 6
abbrev N_less : List Str := ["a", "b"]
theorem sc_less : FnScope N_less ["a", "b"] (defScope s_less) := ⟨rfl, rfl, rfl, by decide +kernel, rfl, by decide +kernel, by decide +kernel⟩
abbrev s_worth : Stmt := topS 15
abbrev N_worth : List Str := ["data", "taste", "basket", "least", "i", "said"]
theorem sc_worth : FnScope N_worth ["data", "taste", "basket"] (defScope s_worth) := ⟨rfl, rfl, rfl, by decide +kernel, rfl, by decide +kernel, by decide +kernel⟩
abbrev s__law_add : Stmt := topS 29
abbrev N__law_add : List Str := ["_law_a", "_law_b"]
theorem sc__law_add : FnScope N__law_add ["_law_a", "_law_b"] (defScope s__law_add) := ⟨rfl, rfl, rfl, by decide +kernel, rfl, by decide +kernel, by decide +kernel⟩
abbrev s__law_mul : Stmt := topS 30
abbrev N__law_mul : List Str := ["_law_a", "_law_b"]
theorem sc__law_mul : FnScope N__law_mul ["_law_a", "_law_b"] (defScope s__law_mul) := ⟨rfl, rfl, rfl, by decide +kernel, rfl, by decide +kernel, by decide +kernel⟩
abbrev s__law_is_fraction : Stmt := topS 22
abbrev N__law_is_fraction : List Str := ["_law_x"]
theorem sc__law_is_fraction : FnScope N__law_is_fraction ["_law_x"] (defScope s__law_is_fraction) := ⟨rfl, rfl, rfl, by decide +kernel, rfl, by decide +kernel, by decide +kernel⟩
abbrev s__law_over : Stmt := topS 31
abbrev N__law_over : List Str := ["_law_a", "_law_b"]
theorem sc__law_over : FnScope N__law_over ["_law_a", "_law_b"] (defScope s__law_over) := ⟨rfl, rfl, rfl, by decide +kernel, rfl, by decide +kernel, by decide +kernel⟩
abbrev s__law_dot : Stmt := topS 27
abbrev N__law_dot : List Str := ["_law_a", "_law_b", "_law_total", "_law_k", "_law_q"]
theorem sc__law_dot : FnScope N__law_dot ["_law_a", "_law_b"] (defScope s__law_dot) := ⟨rfl, rfl, rfl, by decide +kernel, rfl, by decide +kernel, by decide +kernel⟩
abbrev s__law_gap : Stmt := topS 28
abbrev N__law_gap : List Str := ["_law_buys", "_law_i", "_law_basket", "_law_price", "_law_money"]
theorem sc__law_gap : FnScope N__law_gap ["_law_buys", "_law_i", "_law_basket"] (defScope s__law_gap) := ⟨rfl, rfl, rfl, by decide +kernel, rfl, by decide +kernel, by decide +kernel⟩
abbrev s_law : Stmt := topS 34
abbrev N_law : List Str := ["_law_script", "_law_goods", "_law_buys", "_law_links", "_law_data_here", "_law_numbers", "_law_weights", "_law_baskets", "_law_place", "_law_row_here", "_law_basket", "_law_least", "_law_i", "_law_told", "_law_actual", "_law_k", "_law_one"]
theorem sc_law : FnScope N_law ["_law_script"] (defScope s_law) := ⟨rfl, rfl, rfl, by decide +kernel, rfl, by decide +kernel, by decide +kernel⟩
section
variable {P : Program} {w : World} {K : PySem.W.Frag} {mg : Str → Option Value} {base : Heap}
def sp__law_row (K : PySem.W.Frag) : Sp := fun vs H Q _ => ∃ (a : Addr) (ns : List Int) (pl m : Nat), vs = [.ref a, .int (pl : Int), .int (m : Int)] ∧ SqL K H a (ns.map V.int) ∧ m ≤ 1000 ∧
  ∀ H' p row, Same H H' → H p = none → isRow row m → H' p = some (.lst (row.map V.int)) → Q (.ref p) H'
def sp__law_gcd (K : PySem.W.Frag) : Sp := fun vs H Q _ => ∃ a b : Int, vs = [.int a, .int b] ∧ 0 ≤ a ∧ 0 ≤ b ∧ b.natAbs < 2 ^ 9000 ∧ Q (.int ((Nat.gcd a.natAbs b.natAbs : Nat) : Int)) H
def sp__law_lowest (K : PySem.W.Frag) : Sp := fun vs H Q _ => ∃ (p q : Int), vs = [.int p, .int q] ∧ 0 < q ∧ q.natAbs < 2 ^ 9000 ∧ rF K H (Rat.divInt p q) Q
def sp__law_long (K : PySem.W.Frag) : Sp := fun vs H Q _ => ∃ (a : Addr) (row : List Int) (st m : Int) (n b : Nat), vs = [.ref a, .int st, .int m] ∧ SqL K H a (row.map V.int) ∧ isRow row n ∧ 0 ≤ st ∧ 0 ≤ m ∧ m ≤ b ∧ st + m ≤ n ∧ n ≤ 1000 ∧
  ∀ x : Int, 0 ≤ x → x.natAbs < 2 ^ (10 * b) → x.natAbs < 1000 ^ b → Q (.int x) H
def sp__law_purchase (K : PySem.W.Frag) : Sp := fun vs H Q _ => ∃ (a a2 : Addr) (row shape : List Int) (g : Nat) (kd : Int), vs = [.ref a, .ref a2, .int (g : Int), .int kd] ∧ SqL K H a (row.map V.int) ∧ isRow row 33 ∧ SqL K H a2 (shape.map V.int) ∧ isRow shape 9 ∧ 1 ≤ g ∧ g ≤ 4 ∧ ∀ b, okBuy g b → rD K H (bD b) Q
def sp__law_data (K : PySem.W.Frag) : Sp := fun vs H Q _ => ∃ (a : Addr) (ns : List Int) (pl most linked : Nat), vs = [.ref a, .int (pl : Int), .int (most : Int), .int (linked : Int)] ∧ SqL K H a (ns.map V.int) ∧ most ≤ 10 ∧ linked ≤ 5 ∧ ∀ g bs ls, okData g most linked bs ls → rD K H (dataD g bs ls) Q
def sp_Data_init (K : PySem.W.Frag) (C : Addr) : Sp := fun vs H Q _ => ∃ (H₀ : Hp) (p dx : Addr) (g : Nat) (bs : List Buy) (ls : List Lnk) (vb vl : V), vs = [.ref p, .int (g : Int), vb, vl] ∧ Same H₀ H ∧ H₀ p = none ∧ H p = some (.ins C dx []) ∧ Dp K H₀ vb (bsD bs) ∧ Dp K H₀ vl (lsD ls) ∧ bs.length ≤ 1000 ∧ ls.length ≤ 1000 ∧ (∀ b ∈ bs, b.1.length ≤ 1000 ∧ b.2.length ≤ 1000) ∧
  ∀ H' fs, Same H₀ H' → H' p = some (.ins C dx fs) → DataN K H₀ H' p g bs ls → Q .non H'
def sp__law_made (K : PySem.W.Frag) : Sp := fun vs H Q _ => ∃ (g : Nat) (bs : List Buy) (ls : List Lnk) (vb vl : V), vs = [.int (g : Int), vb, vl] ∧ Dp K H vb (bsD bs) ∧ Dp K H vl (lsD ls) ∧ bs.length ≤ 1000 ∧ ls.length ≤ 1000 ∧ (∀ b ∈ bs, b.1.length ≤ 1000 ∧ b.2.length ≤ 1000) ∧
  ∀ H' p, Same H H' → H p = none → DataN K H H' p g bs ls → Q (.ref p) H'
def sp__law_is_integer (K : PySem.W.Frag) : Sp := fun vs H Q _ => ∃ i : Int, vs = [.int i] ∧ Q (.bl true) H
def sp__law_same (n : Nat) (K : PySem.W.Frag) : Sp := fun vs H Q _ => ∃ (x y : V) (d : PyData), vs = [x, y] ∧ Dp K H x d ∧ Dp K H y d ∧ plain n d ∧ Q (.bl true) H
def sp__law_unchanged (K : PySem.W.Frag) : Sp := fun vs H Q _ => ∃ (a : Addr) (vb vl : V) (g : Nat) (bs : List Buy) (ls : List Lnk), vs = [.ref a, .int (g : Int), vb, vl] ∧ DataAt K H a g bs ls ∧ Dp K H vb (bsD bs) ∧ Dp K H vl (lsD ls) ∧ g ≤ 1000000 ∧ bs.length ≤ 1000000 ∧ ls.length ≤ 1000000 ∧ (∀ b ∈ bs, okBuy g b) ∧ Q (.bl true) H
def sp__law_drawn (K : PySem.W.Frag) : Sp := fun vs H Q _ => ∃ (a : Addr) (row : List Int), vs = [.ref a] ∧ SqL K H a (row.map V.int) ∧ isRow row 24 ∧ ∀ r, Sz 100 r → rF K H r Q
def sp_ratio (K : PySem.W.Frag) : Sp := fun vs H Q _ => ∃ p q : Int, vs = [.int p, .int q] ∧ q ≠ 0 ∧ q.natAbs < 2 ^ 9000 ∧ rF K H (Rat.divInt p q) Q
def sp_sub (K : PySem.W.Frag) : Sp := fun vs H Q _ => ∃ (a b : Addr) (r s : Rat), vs = [.ref a, .ref b] ∧ IsF K H a r ∧ IsF K H b s ∧ Sz 4000 r ∧ Sz 4000 s ∧ rF K H (r - s) Q
def sp_add (K : PySem.W.Frag) : Sp := fun vs H Q _ => ∃ (a b : Addr) (r s : Rat), vs = [.ref a, .ref b] ∧ IsF K H a r ∧ IsF K H b s ∧ Sz 4000 r ∧ Sz 4000 s ∧ rF K H (r + s) Q
def sp_mul (K : PySem.W.Frag) : Sp := fun vs H Q _ => ∃ (a b : Addr) (r s : Rat), vs = [.ref a, .ref b] ∧ IsF K H a r ∧ IsF K H b s ∧ Sz 4000 r ∧ Sz 4000 s ∧ rF K H (r * s) Q
def sp_dot (K : PySem.W.Frag) : Sp := fun vs H Q _ => ∃ (a b : Addr) (rs ss : List Rat) (B : Nat), vs = [.ref a, .ref b] ∧ FsAt K H a rs ∧ FsAt K H b ss ∧ rs.length = ss.length ∧ (∀ r ∈ rs, Sz B r) ∧ (∀ s ∈ ss, Sz B s) ∧ 1 + rs.length * (2 * B + 1) ≤ 4000 ∧ rF K H (dotR rs ss) Q
def sp_cost (K : PySem.W.Frag) : Sp := fun vs H Q _ => ∃ (a b : Addr) (rs ss : List Rat) (B : Nat), vs = [.ref a, .ref b] ∧ FsAt K H a rs ∧ FsAt K H b ss ∧ rs.length = ss.length ∧ (∀ r ∈ rs, Sz B r) ∧ (∀ s ∈ ss, Sz B s) ∧ 1 + rs.length * (2 * B + 1) ≤ 4000 ∧ rF K H (dotR rs ss) Q
def sp_spent (K : PySem.W.Frag) : Sp := fun vs H Q _ => ∃ (a : Addr) (g : Nat) (bs : List Buy) (ls : List Lnk) (i : Nat) (b : Buy), vs = [.ref a, .int (i : Int)] ∧ DataAt K H a g bs ls ∧ bs[i]? = some b ∧ okBuy g b ∧ g ≤ 8 ∧ rF K H (dotR b.1 b.2) Q
def sp_plane (K : PySem.W.Frag) : Sp := fun vs H Q _ => ∃ (a t pn pw c : Addr) (g i : Nat) (bs : List Buy) (ls : List Lnk) (b : Buy) (ns ws ss : List Rat) (n w : Rat), vs = [.ref a, .ref t, .int (i : Int), .ref c] ∧ DataAt K H a g bs ls ∧ bs[i]? = some b ∧ okBuy g b ∧ g ≤ 4 ∧ SqT K H t [.ref pn, .ref pw] ∧ FsAt K H pn ns ∧ FsAt K H pw ws ∧ ns[i]? = some n ∧ ws[i]? = some w ∧ Sz 1000 n ∧ Sz 1000 w ∧ FsAt K H c ss ∧ ss.length = g ∧ (∀ s ∈ ss, Sz 80 s) ∧ rF K H (n + w * gapR b ss) Q
def sp_less (K : PySem.W.Frag) : Sp := fun vs H Q _ => ∃ (a b : Addr) (r s : Rat), vs = [.ref a, .ref b] ∧ IsF K H a r ∧ IsF K H b s ∧ Sz 4000 r ∧ Sz 4000 s ∧ Q (.bl (decide (r < s))) H
def sp_worth (K : PySem.W.Frag) : Sp := fun vs H Q _ => ∃ (a t pn pw c : Addr) (g : Nat) (bs : List Buy) (ls : List Lnk) (ns ws ss : List Rat), vs = [.ref a, .ref t, .ref c] ∧ DataAt K H a g bs ls ∧ (∀ b ∈ bs, okBuy g b) ∧ g ≤ 4 ∧ 0 < bs.length ∧ bs.length ≤ 100 ∧ SqT K H t [.ref pn, .ref pw] ∧ FsAt K H pn ns ∧ FsAt K H pw ws ∧ ns.length = bs.length ∧ ws.length = bs.length ∧ (∀ n ∈ ns, Sz 1000 n) ∧ (∀ w ∈ ws, Sz 1000 w) ∧ FsAt K H c ss ∧ ss.length = g ∧ (∀ s ∈ ss, Sz 80 s) ∧ rF K H (leastR (planesR bs ns ws ss)) Q
def sp__law_add (K : PySem.W.Frag) : Sp := fun vs H Q _ => ∃ (a b : Addr) (p q u v : Int) (n : Nat), vs = [.ref a, .ref b] ∧ SqT K H a [.int p, .int q] ∧ SqT K H b [.int u, .int v] ∧ n ≤ 100000 ∧ p.natAbs < 2 ^ n ∧ q.natAbs < 2 ^ n ∧ u.natAbs < 2 ^ n ∧ v.natAbs < 2 ^ n ∧ rQ K H (p * v + u * q) (q * v) Q
def sp__law_mul (K : PySem.W.Frag) : Sp := fun vs H Q _ => ∃ (a b : Addr) (p q u v : Int) (n : Nat), vs = [.ref a, .ref b] ∧ SqT K H a [.int p, .int q] ∧ SqT K H b [.int u, .int v] ∧ n ≤ 100000 ∧ p.natAbs < 2 ^ n ∧ q.natAbs < 2 ^ n ∧ u.natAbs < 2 ^ n ∧ v.natAbs < 2 ^ n ∧ rQ K H (p * u) (q * v) Q
def sp__law_is_fraction (K : PySem.W.Frag) : Sp := fun vs H Q _ => ∃ (a : Addr) (r : Rat), vs = [.ref a] ∧ IsF K H a r ∧ r.den < 2 ^ 9000 ∧ Q (.bl true) H
def sp__law_over (K : PySem.W.Frag) : Sp := fun vs H Q _ => ∃ (a b : Addr) (p q u v : Int) (n : Nat), vs = [.ref a, .ref b] ∧ SqT K H a [.int p, .int q] ∧ SqT K H b [.int u, .int v] ∧ n ≤ 100000 ∧ p.natAbs < 2 ^ n ∧ q.natAbs < 2 ^ n ∧ u.natAbs < 2 ^ n ∧ v.natAbs < 2 ^ n ∧ Q (.int (p * v - u * q)) H
def sp__law_dot (K : PySem.W.Frag) : Sp := fun vs H Q _ => ∃ (a b : Addr) (rs ss : List Rat) (B : Nat), vs = [.ref a, .ref b] ∧ FsAt K H a rs ∧ FsAt K H b ss ∧ rs.length = ss.length ∧ (∀ r ∈ rs, Sz B r) ∧ (∀ s ∈ ss, Sz B s) ∧ rs.length * (2 * B + 1) ≤ 4000 ∧ rs.length ≤ 1000 ∧ rP K H (dotR rs ss) (rs.length * (2 * B + 1) + 1) Q
def sp__law_gap (K : PySem.W.Frag) : Sp := fun vs H Q _ => ∃ (vb : V) (bs : List Buy) (i g : Nat) (b : Buy) (c : Addr) (ss : List Rat), vs = [vb, .int (i : Int), .ref c] ∧ Dp K H vb (bsD bs) ∧ bs[i]? = some b ∧ okBuy g b ∧ g ≤ 4 ∧ FsAt K H c ss ∧ ss.length = g ∧ (∀ s ∈ ss, Sz 80 s) ∧ rP K H (gapR b ss) 3000 Q
def sp_law (K : PySem.W.Frag) : Sp := fun vs H Q _ => ∃ (a : Addr) (ns : List Int), vs = [.ref a] ∧ SqL K H a (ns.map V.int) ∧ ns.length ≤ 63 ∧ ∀ H', Q (.bl true) H'
theorem ok__law_row {f : Addr} {fd : FuncData} (F : Fun K "_law_row" "_law_row" s__law_row f fd) (m_range : mg "range" = none) (m_len : mg "len" = none) (m_int : mg "int" = none) : FnOk P w K mg base CX0 1 f fd ["_law_script", "_law_place", "_law_many"] (sp__law_row K) := by
  refine F.ok sc__law_row (fun vs H Q E h => ?_) (fun cdv A outer s H vs Q E hr h => ?_)
  · obtain ⟨a, ns, pl, m, rfl, _⟩ := h
    rfl
  · refine ⟨_, (pss_cons (ps_set (i := 3) sc__law_row.nd rfl (Or.inl rfl) (pe_op op_add (pe_op op_mulG pe_int (pv 1)) pe_int))
      (C8.pss_cut (ps_if (pt_cmpR op_lt (pv 1) (pe_callB call_len_seq (by rfl) m_len (by decide +kernel) (pa_cons (pv 0) pa_nil)) (nomark _))
      (pss_one (ps_set (i := 3) sc__law_row.nd rfl (Or.inl rfl) (pe_ix ix_list (pv 0) (pv 1) (fun _ _ => rfl))))
      pss_nil)
      (pss_cons (ps_set (i := 4) sc__law_row.nd rfl (Or.inl rfl) (pe_op op_sub (pv 3) (pe_op op_pow pe_int pe_int)))
      (pss_cons (ps_set (i := 5) sc__law_row.nd rfl (Or.inl rfl) (pe_lst pa_nil))
      (pss_cons (ps_for PassesOwn.never rfl (pi_range1 rfl m_range (pa_cons (pv 2) pa_nil)) (pg_name (i := 6) sc__law_row.nd rfl (Or.inl rfl))
      (pss_one (ps_if (pt_cmpR op_gt (pv 4) pe_int (nomark _))
      (pss_cons (ps_expr (pe_bm PySem.F.plainAttrs_list PySem.F.slot_list_append PySem.F.type_list_append mt_append (pv 5) (pa_cons (pe_op op_mod (pe_callTy call_int1 (by rfl) m_int (by decide +kernel) (pa_cons (pv 4) pa_nil)) pe_int) pa_nil)))
      (pss_one (ps_set (i := 4) sc__law_row.nd rfl (Or.inl rfl) (pe_op op_fdiv (pv 4) pe_int))))
      (pss_cons (ps_set (i := 7) sc__law_row.nd rfl (Or.inl rfl) (pe_op op_mod (pe_callTy call_int1 (by rfl) m_int (by decide +kernel) (pa_cons (pe_op op_add (pe_op op_add (pe_op op_mulG (pv 3) pe_int) (pe_op op_mulG (pv 6) pe_int)) pe_int) pa_nil)) pe_int))
      (pss_cons (ps_set (i := 7) sc__law_row.nd rfl (Or.inl rfl) (pe_op op_mod (pe_callTy call_int1 (by rfl) m_int (by decide +kernel) (pa_cons (pe_op op_add (pe_op op_add (pe_op op_mulG (pv 7) (pv 7)) (pe_op op_mulG (pv 7) pe_int)) (pe_op op_mulG (pv 6) pe_int)) pa_nil)) pe_int))
      (pss_one (ps_expr (pe_bm PySem.F.plainAttrs_list PySem.F.slot_list_append PySem.F.type_list_append mt_append (pv 5) (pa_cons (pe_op op_mod (pe_op op_fdiv (pv 7) pe_int) pe_int) pa_nil)))))))))
      (pss_one (ps_ret (pv 5)))))))), ?_⟩
    obtain ⟨a, ns, pl, m, rfl, hS, hm, Z⟩ := h
    refine ⟨_, rfl, _, _, rfl, rfl, mulG_l (by decide), _, _, rfl, rfl, ?_⟩
    refine ⟨fun σ H1 => H1 = H ∧ ∃ c : Int, σ = [some (.ref a), some (.int (pl : Int)), some (.int (m : Int)), some (.int c), none, none, none, none], ?_, ?_⟩
    · refine ⟨_, rfl, _, rfl, a, _, rfl, .inl hS, _, _, rfl, rfl, _, rfl, ite2 (fun e => ?_) (fun e => ⟨rfl, _, rfl⟩)⟩
      have e' : (pl : Int) < (ns.map V.int).length := of_decide_eq_true e
      rw [List.length_map] at e'
      have g : (ns.map V.int)[pl]? = some (.int (ns[pl]'(by omega))) := by
        rw [List.getElem?_map, List.getElem?_eq_getElem (by omega)]
        rfl
      exact ⟨_, rfl, _, rfl, _, _, _, _, rfl, rfl, hS, atI_nat g, rfl, _, rfl⟩
    · rintro σ H1 ⟨rfl, c, rfl⟩
      refine ⟨_, rfl, _, _, rfl, rfl, ⟨by decide, by decide, by decide⟩, _, _, rfl, rfl, Nat.zero_le _, fun o no => ?_⟩
      refine ⟨_, rfl, _, rfl, by omega, by omega, ?_⟩
      refine for_range (lo := 0) (n := m) (fun i σ H2 => ∃ (r : Int) (y6 y7 : Option V), σ = [some (.ref a), some (.int (pl : Int)), some (.int (m : Int)), some (.int c), some (.int r), some (.ref o), y6, y7] ∧ RowAt H1 H2 o i)
        ⟨_, _, _, rfl, RowAt.start no⟩ ?_ ?_
      · rintro i σ H2 hi ⟨r, y6, y7, rfl, ra⟩
        obtain ⟨_, sm, rw, hrw, eo⟩ := id ra
        have hsz : (rw.map V.int).length < sizeLine := by
          rw [List.length_map, hrw.1]; exact small1000 (by omega)
        refine ⟨_, rfl, _, _, rfl, rfl, _, rfl, ite2 (fun e => ?_) (fun e => ?_)⟩
        · refine ⟨_, rfl, .inl ⟨rfl, _, .inl (.inl eo)⟩, _, rfl, .inl ⟨_, rfl, _, _, rfl, rfl, by show (0 : Int) < 1000; decide, _, _, _, rfl, rfl, eo, hsz, ?_⟩⟩
          refine ⟨_, rfl, _, _, rfl, rfl, ⟨by decide, by decide⟩, ?_⟩
          exact ⟨_, _, _, rfl, ra.push eo (by omega) (by omega)⟩
        · refine ⟨_, rfl, _, _, rfl, rfl, mulG_r (by decide), _, rfl, _, _, rfl, rfl, mulG_r (by decide), _, _, rfl, rfl, _, _, rfl, rfl, .inl ⟨_, rfl, _, _, rfl, rfl, by show (0 : Int) < 2147483647; decide, ?_⟩⟩
          refine ⟨_, rfl, _, rfl, _, _, rfl, rfl, mulG_l (by omega), _, rfl, _, _, rfl, rfl, mulG_r (by decide), _, _, rfl, rfl, _, rfl, _, _, rfl, rfl, mulG_r (by decide), _, _, rfl, rfl, .inl ⟨_, rfl, _, _, rfl, rfl, by show (0 : Int) < 2147483399; decide, ?_⟩⟩
          refine ⟨_, rfl, .inl ⟨rfl, _, .inl (.inl eo)⟩, _, rfl, _, _, rfl, rfl, ⟨by decide, by decide⟩, _, _, rfl, rfl, by show (0 : Int) < 1000; decide, _, _, _, rfl, rfl, eo, hsz, ?_⟩
          exact ⟨_, _, _, rfl, ra.push eo (by omega) (by omega)⟩
      · rintro σ H2 ⟨r, y6, y7, rfl, _, sm, rw, hrw, eo⟩
        exact ⟨_, rfl, Z _ _ _ sm no hrw eo⟩
theorem ok__law_gcd {f : Addr} {fd : FuncData} (F : Fun K "_law_gcd" "_law_gcd" s__law_gcd f fd) (m_range : mg "range" = none) (m_int : mg "int" = none) : FnOk P w K mg base CX0 1 f fd ["_law_a", "_law_b"] (sp__law_gcd K) := by
  refine F.ok sc__law_gcd (fun vs H Q E h => ?_) (fun cdv A outer s H vs Q E hr h => ?_)
  · obtain ⟨a, b, rfl, _⟩ := h
    rfl
  · refine ⟨_, (pss_cons (ps_for PassesOwn.never rfl (pi_range1 rfl m_range (pa_cons (pe_op op_add (pe_op op_mulG pe_int (pe_bits (pv 1))) pe_int) pa_nil)) (pg_name (i := 2) sc__law_gcd.nd rfl (Or.inl rfl))
      (pss_cons (ps_if (pt_cmpR op_eq (pv 1) pe_int (nomark _))
      (pss_one (ps_ret (pv 0)))
      pss_nil)
      (pss_one (ps_par (i := 0) (j := 1) rfl sc__law_gcd.nd rfl rfl (by decide) rfl rfl (pa_cons (pv 1) (pa_cons (pe_op op_mod (pe_callTy call_int1 (by rfl) m_int (by decide +kernel) (pa_cons (pv 0) pa_nil)) (pv 1)) pa_nil)) (by rfl)))))
      (pss_one (ps_ret (pv 0)))), ?_⟩
    obtain ⟨a, b, rfl, ha, hb, hs, Z⟩ := h
    obtain ⟨a, rfl⟩ := Int.eq_ofNat_of_zero_le ha
    obtain ⟨b, rfl⟩ := Int.eq_ofNat_of_zero_le hb
    rw [Int.natAbs_natCast] at hs
    rw [Int.natAbs_natCast, Int.natAbs_natCast] at Z
    obtain ⟨L, hL, hbits⟩ : ∃ L : Nat, L ≤ 9001 ∧ Builtin.Int.intBits (b : Int) = L := ⟨_, bits_le hs, rfl⟩
    refine ⟨_, rfl, _, rfl, _, _, rfl, rfl, mulG_l (by decide), _, _, rfl, rfl, ?_⟩
    rw [hbits]
    refine ⟨_, rfl, by omega, by omega, ?_⟩
    refine for_range (lo := 0) (n := 2 * L + 2) (fun i σ H1 => H1 = H ∧ ∃ (a' b' : Nat) (y : Option V), σ = [some (.int (a' : Int)), some (.int (b' : Int)), y] ∧ Euc L (Nat.gcd a b) i a' b') ⟨rfl, a, b, _, rfl, euc_start (bits_lt hbits)⟩ ?_ ?_
    · rintro i σ H1 hi ⟨rfl, a', b', y, rfl, he⟩
      refine ⟨_, rfl, rfl, _, rfl, ite2 (fun e => ?_) (fun e => ?_)⟩
      · have e' : (b' : Int) = 0 := V.int.inj (of_decide_eq_true e)
        have e2 : b' = 0 := by omega
        subst e2
        refine ⟨_, rfl, ?_⟩
        rw [euc_zero he]
        exact Z
      · have e' : b' ≠ 0 := fun z => e (decide_eq_true (by rw [z]; rfl))
        refine ⟨_, rfl, _, rfl, .inl ⟨_, rfl, _, rfl, _, _, rfl, rfl, by show (0 : Int) < b'; omega, _, _, rfl, ?_⟩⟩
        exact ⟨rfl, b', a' % b', _, rfl, euc_step he e'⟩
    · rintro σ H1 ⟨rfl, a', b', y, rfl, he⟩
      refine ⟨_, rfl, ?_⟩
      rw [euc_end he]
      exact Z
theorem ok__law_lowest {f : Addr} {fd : FuncData} (F : Fun K "_law_lowest" "_law_lowest" s__law_lowest f fd) (D__law_gcd : Dn P w K mg base CX0 1 "_law_gcd" (sp__law_gcd K)) (m_abs : mg "abs" = none) : FnOk P w K mg base CX0 2 f fd ["_law_p", "_law_q"] (sp__law_lowest K) := by
  refine F.ok sc__law_lowest (fun vs H Q E h => ?_) (fun cdv A outer s H vs Q E hr h => ?_)
  · obtain ⟨p, q, rfl, _⟩ := h
    rfl
  · refine ⟨_, (pss_cons (ps_set (i := 2) sc__law_lowest.nd rfl (Or.inl rfl) (pe_d D__law_gcd hr (by decide) (by rfl) pass0 (pa_cons (pe_callB call_abs (by rfl) m_abs (by decide +kernel) (pa_cons (pv 0) pa_nil)) (pa_cons (pv 1) pa_nil))))
      (pss_one (ps_ret (pe_tup (pa_cons (pe_op op_fdivG (pv 0) (pv 2)) (pa_cons (pe_op op_fdivG (pv 1) (pv 2)) pa_nil)))))), ?_⟩
    obtain ⟨p, q, rfl, hq, hs, Z⟩ := h
    have c := ratio_common (p := p) (Int.ne_of_gt hq)
    have e1 := ratio_num (p := p) (Int.ne_of_gt hq)
    have e2 := ratio_den (p := p) (Int.ne_of_gt hq)
    rw [if_neg (show ¬ q < 0 by omega)] at c e1 e2
    refine ⟨_, rfl, _, rfl, _, rfl, _, _, rfl, abs_nn p, by omega, hs, ?_⟩
    rw [abs_na p]
    refine ⟨_, rfl, _, rfl, _, _, rfl, rfl, ⟨c.1, Nat.lt_of_le_of_lt c.2 hs⟩, _, rfl, _, rfl, _, _, rfl, rfl, ⟨c.1, Nat.lt_of_le_of_lt c.2 hs⟩, by show 2 ≤ sizeLine; decide, fun a ha => ?_⟩
    refine Z _ a (same_upd ha) ha (SqT.of ?_)
    rw [upd_same, ← e1, ← e2]
theorem ok__law_long {f : Addr} {fd : FuncData} (F : Fun K "_law_long" "_law_long" s__law_long f fd) (m_range : mg "range" = none) : FnOk P w K mg base CX0 1 f fd ["_law_row_here", "_law_start", "_law_many"] (sp__law_long K) := by
  refine F.ok sc__law_long (fun vs H Q E h => ?_) (fun cdv A outer s H vs Q E hr h => ?_)
  · obtain ⟨a, row, st, m, n, b, rfl, _⟩ := h
    rfl
  · refine ⟨_, (pss_cons (ps_set (i := 3) sc__law_long.nd rfl (Or.inl rfl) pe_int)
      (pss_cons (ps_for PassesOwn.never rfl (pi_range1 rfl m_range (pa_cons (pv 2) pa_nil)) (pg_name (i := 4) sc__law_long.nd rfl (Or.inl rfl))
      (pss_one (ps_set (i := 3) sc__law_long.nd rfl (Or.inl rfl) (pe_op op_add (pe_op op_mulG (pv 3) pe_int) (pe_ix ix_list (pv 0) (pe_op op_add (pv 1) (pv 4)) (fun _ _ => rfl))))))
      (pss_one (ps_ret (pv 3))))), ?_⟩
    obtain ⟨a, row, st, m, n, b, rfl, hS, hrow, h0, h1, hb, hst, hn, Z⟩ := h
    obtain ⟨st, rfl⟩ := Int.eq_ofNat_of_zero_le h0
    obtain ⟨m, rfl⟩ := Int.eq_ofNat_of_zero_le h1
    refine ⟨_, rfl, _, rfl, by omega, by omega, ?_⟩
    refine for_range (lo := 0) (n := m) (fun i σ H2 => H2 = H ∧ ∃ (x : Int) (y : Option V), σ = [some (.ref a), some (.int (st : Int)), some (.int (m : Int)), some (.int x), y] ∧ 0 ≤ x ∧ x.natAbs < 1000 ^ i) ⟨rfl, 0, _, rfl, by decide, by decide⟩ ?_ ?_
    · rintro i σ H2 hi ⟨rfl, x, y, rfl, h0, h1⟩
      obtain ⟨v, hv, v0, v1⟩ := hrow.at (st + i) (by omega)
      have hv' : atI (row.map V.int) ((st : Int) + (0 + (i : Int))) = some (.int v) := by
        rw [← hv]; congr 1; omega
      refine ⟨_, rfl, _, _, rfl, rfl, mulG_b (b := 10) (Nat.lt_of_lt_of_le h1 (pow1000 i)) (by decide) (by omega), _, rfl, _, rfl, _, rfl, _, _, rfl, rfl, _, _, _, _, rfl, rfl, hS, hv', _, _, rfl, rfl, rfl, _, _, rfl, by omega, ?_⟩
      rw [Nat.pow_succ]
      omega
    · rintro σ H2 ⟨rfl, x, y, rfl, h0, h1⟩
      exact ⟨_, rfl, Z x h0 (Nat.lt_of_lt_of_le h1 (Nat.le_trans (pow1000 m) (Nat.pow_le_pow_right (by decide) (by omega)))) (Nat.lt_of_lt_of_le h1 (Nat.pow_le_pow_right (by decide) (by omega)))⟩
theorem ok__law_purchase {f : Addr} {fd : FuncData} (F : Fun K "_law_purchase" "_law_purchase" s__law_purchase f fd) (D__law_lowest : Dn P w K mg base CX0 2 "_law_lowest" (sp__law_lowest K)) (D__law_long : Dn P w K mg base CX0 1 "_law_long" (sp__law_long K)) (m_range : mg "range" = none) (m_max : mg "max" = none) (m_int : mg "int" = none) : FnOk P w K mg base CX0 3 f fd ["_law_row_here", "_law_shape", "_law_goods", "_law_kind"] (sp__law_purchase K) := by
  refine F.ok sc__law_purchase (fun vs H Q E h => ?_) (fun cdv A outer s H vs Q E hr h => ?_)
  · obtain ⟨a, a2, row, shape, g, kd, rfl, _⟩ := h
    rfl
  · refine ⟨_, (pss_cons (ps_set (i := 4) sc__law_purchase.nd rfl (Or.inl rfl) (pe_lst pa_nil))
      (pss_cons (ps_set (i := 5) sc__law_purchase.nd rfl (Or.inl rfl) (pe_lst pa_nil))
      (pss_cons (ps_for PassesOwn.never rfl (pi_range1 rfl m_range (pa_cons (pv 2) pa_nil)) (pg_name (i := 6) sc__law_purchase.nd rfl (Or.inl rfl))
      (pss_cons (ps_set (i := 7) sc__law_purchase.nd rfl (Or.inl rfl) (pe_d D__law_lowest hr (by decide) (by rfl) pass0 (pa_cons (pe_op op_add pe_int (pe_op op_mod (pe_callTy call_int1 (by rfl) m_int (by decide +kernel) (pa_cons (pe_ix ix_list (pv 0) (pe_op op_mulG pe_int (pv 6)) (fun _ _ => rfl)) pa_nil)) pe_int)) (pa_cons (pe_op op_add pe_int (pe_op op_mod (pe_callTy call_int1 (by rfl) m_int (by decide +kernel) (pa_cons (pe_ix ix_list (pv 0) (pe_op op_add (pe_op op_mulG pe_int (pv 6)) pe_int) (fun _ _ => rfl)) pa_nil)) pe_int)) pa_nil))))
      (pss_cons (ps_set (i := 8) sc__law_purchase.nd rfl (Or.inl rfl) (pe_d D__law_lowest hr (by decide) (by rfl) pass0 (pa_cons (pe_op op_mod (pe_callTy call_int1 (by rfl) m_int (by decide +kernel) (pa_cons (pe_ix ix_list (pv 0) (pe_op op_add (pe_op op_mulG pe_int (pv 6)) pe_int) (fun _ _ => rfl)) pa_nil)) pe_int) (pa_cons (pe_op op_add pe_int (pe_op op_mod (pe_callTy call_int1 (by rfl) m_int (by decide +kernel) (pa_cons (pe_ix ix_list (pv 0) (pe_op op_add (pe_op op_mulG pe_int (pv 6)) pe_int) (fun _ _ => rfl)) pa_nil)) pe_int)) pa_nil))))
      (C8.pss_cut (ps_if (pt_cmpR op_eq (pv 3) pe_int (nomark _))
      (pss_one (ps_set (i := 7) sc__law_purchase.nd rfl (Or.inl rfl) (pe_tup (pa_cons (pe_op op_add pe_int (pe_op op_mod (pe_callTy call_int1 (by rfl) m_int (by decide +kernel) (pa_cons (pe_ix ix_list (pv 0) (pe_op op_mulG pe_int (pv 6)) (fun _ _ => rfl)) pa_nil)) pe_int)) (pa_cons pe_int pa_nil)))))
      pss_nil)
      (C8.pss_cut (ps_if (pt_cmpR op_eq (pv 3) pe_int (nomark _))
      (pss_one (ps_set (i := 7) sc__law_purchase.nd rfl (Or.inl rfl) (pe_tup (pa_cons (pe_op op_add pe_int (pe_op op_mod (pe_callTy call_int1 (by rfl) m_int (by decide +kernel) (pa_cons (pe_ix ix_list (pv 1) (pe_op op_add pe_int (pv 6)) (fun _ _ => rfl)) pa_nil)) pe_int)) (pa_cons pe_int pa_nil)))))
      pss_nil)
      (C8.pss_cut (ps_if (PW.pt (pw_or (pt_cmpR op_eq (pv 3) pe_int (nomark _)) (pw_or1 (pt_cmpR op_eq (pv 3) pe_int (nomark _)))))
      (pss_one (ps_set (i := 8) sc__law_purchase.nd rfl (Or.inl rfl) (pe_tup (pa_cons (pe_op op_mod (pe_callTy call_int1 (by rfl) m_int (by decide +kernel) (pa_cons (pe_ix ix_list (pv 0) (pe_op op_add (pe_op op_mulG pe_int (pv 6)) pe_int) (fun _ _ => rfl)) pa_nil)) pe_int) (pa_cons pe_int pa_nil)))))
      pss_nil)
      (C8.pss_cut (ps_if (pt_cmpR op_eq (pv 3) pe_int (nomark _))
      (pss_one (ps_set (i := 8) sc__law_purchase.nd rfl (Or.inl rfl) (pe_d D__law_lowest hr (by decide) (by rfl) pass0 (pa_cons (pe_op op_mulG (pe_op op_mulG (pe_op op_add pe_int (pe_op op_mod (pe_callTy call_int1 (by rfl) m_int (by decide +kernel) (pa_cons (pe_ix ix_list (pv 1) (pe_op op_add pe_int (pv 6)) (fun _ _ => rfl)) pa_nil)) pe_int)) (pe_op op_add pe_int (pe_op op_mod (pe_callTy call_int1 (by rfl) m_int (by decide +kernel) (pa_cons (pe_ix ix_list (pv 0) pe_int (fun _ _ => rfl)) pa_nil)) pe_int))) (pe_ix ix_tup (pv 7) pe_int (fun _ _ => rfl))) (pa_cons (pe_ix ix_tup (pv 7) pe_int (fun _ _ => rfl)) pa_nil)))))
      pss_nil)
      (C8.pss_cut (ps_if (pt_cmpR op_eq (pv 3) pe_int (nomark _))
      (pss_cons (ps_set (i := 7) sc__law_purchase.nd rfl (Or.inl rfl) (pe_d D__law_lowest hr (by decide) (by rfl) pass0 (pa_cons (pe_op op_add pe_int (pe_d D__law_long hr (by decide) (by rfl) pass0 (pa_cons (pv 0) (pa_cons (pe_op op_mulG pe_int (pv 6)) (pa_cons pe_int pa_nil))))) (pa_cons (pe_op op_add pe_int (pe_ix ix_list (pv 0) (pe_op op_add (pe_op op_mulG pe_int (pv 6)) pe_int) (fun _ _ => rfl))) pa_nil))))
      (pss_one (ps_set (i := 8) sc__law_purchase.nd rfl (Or.inl rfl) (pe_d D__law_lowest hr (by decide) (by rfl) pass0 (pa_cons (pe_d D__law_long hr (by decide) (by rfl) pass0 (pa_cons (pv 0) (pa_cons (pe_op op_add (pe_op op_mulG pe_int (pv 6)) pe_int) (pa_cons pe_int pa_nil)))) (pa_cons (pe_op op_add pe_int (pe_ix ix_list (pv 0) (pe_op op_mulG pe_int (pv 6)) (fun _ _ => rfl))) pa_nil))))))
      pss_nil)
      (pss_cons (ps_expr (pe_bm PySem.F.plainAttrs_list PySem.F.slot_list_append PySem.F.type_list_append mt_append (pv 4) (pa_cons (pv 7) pa_nil)))
      (pss_one (ps_expr (pe_bm PySem.F.plainAttrs_list PySem.F.slot_list_append PySem.F.type_list_append mt_append (pv 5) (pa_cons (pv 8) pa_nil)))))))))))))
      (C8.pss_cut (ps_if (pt_cmpR op_eq (pe_callB (cr_max rfl) (by rfl) m_max (by decide +kernel) (pa_cons (pe_lc (own := [("_law_x", 9)]) (g := gName 9) (tt := tYes) rfl sc__law_purchase.nd (pi_list (pv 5)) (blkOk_by (N := N__law_purchase) (sc := defScope s__law_purchase) (by decide +kernel)) (fun _ _ _ _ _ => (pg_name (i := 9) sc__law_purchase.nd rfl (Or.inl rfl))) (fun _ _ _ _ _ => pts_nil) (fun _ _ _ _ _ => (pe_ix (ix_tupK (K := K) rfl) (pv 9) pe_int (fun _ _ => rfl)))) pa_nil)) pe_int (nomark _))
      (pss_one (ps_asg (pe_tup (pa_cons pe_int (pa_cons pe_int pa_nil))) (pg_sub (pv 5) (pe_op op_sub (pv 2) pe_int) set_list)))
      pss_nil)
      (pss_one (ps_ret (pe_tup (pa_cons (pv 4) (pa_cons (pv 5) pa_nil))))))))), ?_⟩
    obtain ⟨a, a2, row, shape, g, kd, rfl, hR, hr, hS, hs, g1, g4, Z⟩ := h
    refine ⟨(show 0 ≤ sizeLine by decide), fun pP nP => (show _ from ⟨(show 0 ≤ sizeLine by decide), fun pA nA => ?_⟩)⟩
    have nPA : pP ≠ pA := fun z => by rw [← z, upd_same] at nA; cases nA
    have sP : Same H (upd H pP (.lst [])) := same_upd nP
    have sA : Same H (upd (upd H pP (.lst [])) pA (.lst [])) := sP.trans (same_upd nA)
    have hnA : H pA = none := sP.free nA
    refine ⟨_, rfl, _, rfl, by omega, by omega, ?_⟩
    refine for_range (lo := 0) (n := g) (growP K a a2 pP pA g kd H) ⟨sA, nPA, _, _, _, [], [], rfl, ?_, ?_, rfl, rfl, (fun r hr => by cases hr), (fun r hr => by cases hr)⟩ ?_ ?_
    · exact (Gr.start (Same.refl _) nP (by simp)).other (by simp) nPA
    · exact Gr.start sP nA (by simp)
    · rintro i σ H1 hi ⟨s1, _, y6, y7, y8, ps, as, rfl, gP, gA, lp, la, fp, fa⟩
      have hR1 := s1.seq hR
      have hS1 := s1.seq hS
      have atc : ∀ c : Nat, c < 8 → ∃ v : Int, atI (row.map V.int) (8 * (0 + (i : Int)) + (c : Int)) = some (.int v) ∧ 0 ≤ v ∧ v < 1000 := fun c hc => by
        obtain ⟨v, h1, h2⟩ := hr.at (8 * i + c) (by omega)
        refine ⟨v, ?_, h2⟩
        rw [← h1]
        congr 1
        omega
      obtain ⟨v0, a0, b0, c0⟩ := atc 0 (by decide)
      rw [show (8 * (0 + (i : Int)) + ((0 : Nat) : Int)) = 8 * (0 + (i : Int)) by omega] at a0
      obtain ⟨v1, a1, b1, c1⟩ := atc 1 (by decide)
      obtain ⟨v2, a2', b2, c2⟩ := atc 2 (by decide)
      obtain ⟨v3, a3, b3, c3⟩ := atc 3 (by decide)
      obtain ⟨v4, a4, b4, c4⟩ := atc 4 (by decide)
      refine ⟨_, rfl, _, rfl, _, _, rfl, rfl, mulG_l (by decide), _, _, _, _, rfl, rfl, hR1, a0, .inl ⟨_, rfl, _, _, rfl, rfl, by show (0 : Int) < 12; decide, _, _, rfl, rfl, ?_⟩⟩
      refine ⟨_, rfl, _, rfl, _, _, rfl, rfl, mulG_l (by decide), _, _, rfl, rfl, _, _, _, _, rfl, rfl, hR1, a1, .inl ⟨_, rfl, _, _, rfl, rfl, by show (0 : Int) < 5; decide, _, _, rfl, rfl, ?_⟩⟩
      have pw9 : ∀ x : Int, x.natAbs < 2 ^ 60 → x.natAbs < 2 ^ 9000 := fun x hx => Nat.lt_of_lt_of_le hx (Nat.pow_le_pow_right (by decide) (by decide))
      refine ⟨_, _, rfl, by omega, pw9 _ (by omega), fun H2 p7 s2 n7 h7 => ?_⟩
      have z7 : Sz 50 (Rat.divInt (1 + v0 % 12) (1 + v1 % 5)) := divInt_sz (by omega) (by omega) (by omega)
      have g7 : 0 < Rat.divInt (1 + v0 % 12) (1 + v1 % 5) := divInt_pos (by omega) (by omega)
      have hR2 := s2.seq hR1
      refine ⟨_, rfl, _, rfl, _, _, rfl, rfl, mulG_l (by decide), _, _, rfl, rfl, _, _, _, _, rfl, rfl, hR2, a2', .inl ⟨_, rfl, _, _, rfl, rfl, by show (0 : Int) < 7; decide, ?_⟩⟩
      refine ⟨_, rfl, _, rfl, _, _, rfl, rfl, mulG_l (by decide), _, _, rfl, rfl, _, _, _, _, rfl, rfl, hR2, a3, .inl ⟨_, rfl, _, _, rfl, rfl, by show (0 : Int) < 4; decide, _, _, rfl, rfl, ?_⟩⟩
      refine ⟨_, _, rfl, by omega, pw9 _ (by omega), fun H3 p8 s3 n8 h8 => ?_⟩
      have z8 : Sz 80 (Rat.divInt (v2 % 7) (1 + v3 % 4)) := divInt_sz (by omega) (by omega) (by omega)
      have g8 : 0 ≤ Rat.divInt (v2 % 7) (1 + v3 % 4) := divInt_nonneg (by omega) (by omega)
      have s23 := s2.trans s3
      have h7' := h7.same s3
      generalize Rat.divInt (1 + v0 % 12) (1 + v1 % 5) = r7 at h7' z7 g7
      generalize Rat.divInt (v2 % 7) (1 + v3 % 4) = r8 at h8 z8 g8
      -- kind == 0
      refine ⟨midP K a a2 pP pA g kd (0 + (i : Int)) H1, ?_, ?_⟩
      · refine ⟨_, rfl, rfl, _, rfl, ite2 (fun e => ?_) (fun e => ⟨s23, p7, p8, r7, r8, rfl, h7', g7, z7, h8, g8, z8⟩)⟩
        refine ⟨_, rfl, _, rfl, _, _, rfl, rfl, mulG_l (by decide), _, _, _, _, rfl, rfl, s23.seq hR1, a0, .inl ⟨_, rfl, _, _, rfl, rfl, by show (0 : Int) < 3; decide, _, _, rfl, rfl, by show 2 ≤ sizeLine; decide, fun t nt => ?_⟩⟩
        exact ⟨s23.trans (same_upd nt), t, p8, _, r8, rfl, int_f (SqT.of upd_same), divInt_pos (by omega) (by decide), divInt_sz (by decide) (by omega) (by decide), h8.new nt, g8, z8⟩
      rintro σ H4 ⟨s4, p7, p8, r7, r8, rfl, h7, g7, z7, h8, g8, z8⟩
      -- kind == 4
      obtain ⟨w, aw, bw, cw⟩ := hs.at (4 + i) (by omega)
      have aw' : atI (shape.map V.int) (4 + (0 + (i : Int))) = some (.int w) := by
        rw [← aw]
        congr 1
        omega
      refine ⟨midP K a a2 pP pA g kd (0 + (i : Int)) H1, ?_, ?_⟩
      · refine ⟨_, rfl, rfl, _, rfl, ite2 (fun e => ?_) (fun e => ⟨s4, p7, p8, r7, r8, rfl, h7, g7, z7, h8, g8, z8⟩)⟩
        refine ⟨_, rfl, _, rfl, _, _, rfl, rfl, _, _, _, _, rfl, rfl, s4.seq hS1, aw', .inl ⟨_, rfl, _, _, rfl, rfl, by show (0 : Int) < 3; decide, _, _, rfl, rfl, by show 2 ≤ sizeLine; decide, fun t nt => ?_⟩⟩
        exact ⟨s4.trans (same_upd nt), t, p8, _, r8, rfl, int_f (SqT.of upd_same), divInt_pos (by omega) (by decide), divInt_sz (by decide) (by omega) (by decide), h8.new nt, g8, z8⟩
      rintro σ H5 ⟨s5, p7, p8, r7, r8, rfl, h7, g7, z7, h8, g8, z8⟩
      -- kind == 0 or kind == 4
      refine ⟨midP K a a2 pP pA g kd (0 + (i : Int)) H1, ?_, ?_⟩
      · have body : ∀ (D : Ends) (H2 : Hp), H2 = H5 → D.nx = midP K a a2 pP pA g kd (0 + (i : Int)) H1 → tAsg (tTup (tCons (tOp (rI (fun x j => 0 < j) fun i j => V.int (i % j)) (tCB (fun xs H Q => (∃ i, xs = [V.int i] ∧ Q (V.int i) H) ∨ ∃ k, xs = [V.bl k] ∧ Q (V.int (if k = true then 1 else 0)) H) (tCons (tOp (rIxL K) (tVar 0) (tOp (rI0 fun i j => V.int (i + j)) (tOp (rI CMulG fun i j => V.int (i * j)) (tC (V.int 8)) (tVar 6)) (tC (V.int 2)))) tNil)) (tC (V.int 4))) (tCons (tC (V.int 1)) tNil))) (gName 8) D [some (V.ref a), some (V.ref a2), some (V.int g), some (V.int kd), some (V.ref pP), some (V.ref pA), some (V.int (0 + (i : Int))), some (V.ref p7), some (V.ref p8), none] H2 := by
          intro D H2 eH eD
          subst eH
          refine ⟨_, rfl, _, rfl, _, _, rfl, rfl, mulG_l (by decide), _, _, rfl, rfl, _, _, _, _, rfl, rfl, s5.seq hR1, a2', .inl ⟨_, rfl, _, _, rfl, rfl, by show (0 : Int) < 4; decide, by show 2 ≤ sizeLine; decide, fun t nt => ?_⟩⟩
          show D.nx _ _
          rw [eD]
          exact ⟨s5.trans (same_upd nt), p7, t, r7, _, rfl, h7.new nt, g7, z7, int_f (SqT.of upd_same), divInt_nonneg (by omega) (by decide), divInt_sz (by decide) (by omega) (by decide)⟩
        refine ⟨_, rfl, rfl, _, rfl, ite2 (fun e => ?_) (fun e => ?_)⟩
        · exact body _ _ rfl rfl
        · refine ⟨_, rfl, rfl, _, rfl, ite2 (fun e => body _ _ rfl rfl) (fun e => ⟨s5, p7, p8, r7, r8, rfl, h7, g7, z7, h8, g8, z8⟩)⟩
      rintro σ H6 ⟨s6, p7, p8, r7, r8, rfl, h7, g7, z7, h8, g8, z8⟩
      -- kind == 2
      obtain ⟨x, ax, bx, cx⟩ := hr.at 32 (by decide)
      have m1 : 0 ≤ (1 + w % 5) * (1 + x % 5) := Int.mul_nonneg (by omega) (by omega)
      have m2 : ((1 + w % 5) * (1 + x % 5)).natAbs < 2 ^ 20 := natAbs_mul_lt (a := 10) (b := 10) (by omega) (by omega)
      refine ⟨midP K a a2 pP pA g kd (0 + (i : Int)) H1, ?_, ?_⟩
      · refine ⟨_, rfl, rfl, _, rfl, ite2 (fun e => ?_) (fun e => ⟨s6, p7, p8, r7, r8, rfl, h7, g7, z7, h8, g8, z8⟩)⟩
        refine ⟨_, rfl, _, rfl, _, _, rfl, rfl, _, _, _, _, rfl, rfl, s6.seq hS1, aw', .inl ⟨_, rfl, _, _, rfl, rfl, by show (0 : Int) < 5; decide, _, _, rfl, rfl, ?_⟩⟩
        refine ⟨_, rfl, _, _, _, _, rfl, rfl, s6.seq hR1, ax, .inl ⟨_, rfl, _, _, rfl, rfl, by show (0 : Int) < 5; decide, _, _, rfl, rfl, _, _, rfl, rfl, mulG_l (by omega), _, rfl, _, _, _, _, rfl, rfl, h7, rfl, _, _, rfl, rfl, mulG_l (Nat.lt_of_lt_of_le m2 (by decide)), _, rfl, _, _, _, _, rfl, rfl, h7, rfl, ?_⟩⟩
        refine ⟨_, _, rfl, num_pos g7, Nat.lt_of_lt_of_le z7.1 (Nat.pow_le_pow_right (by decide) (by decide)), fun H7 t s7 nt ht => ?_⟩
        refine ⟨s6.trans s7, p7, t, r7, _, rfl, h7.same s7, g7, z7, ht, divInt_nonneg (Int.mul_nonneg m1 (Int.natCast_nonneg _)) (num_pos g7), divInt_sz (Int.ne_of_gt (num_pos g7)) ?_ (Nat.lt_of_lt_of_le z7.1 (Nat.pow_le_pow_right (by decide) (by decide)))⟩
        exact Nat.lt_of_lt_of_le (natAbs_mul_lt m2 z7.den) (Nat.pow_le_pow_right (by decide) (by decide))
      rintro σ H7 ⟨s7, p7, p8, r7, r8, rfl, h7, g7, z7, h8, g8, z8⟩
      -- kind == 3
      refine ⟨midP K a a2 pP pA g kd (0 + (i : Int)) H1, ?_, ?_⟩
      · refine ⟨_, rfl, rfl, _, rfl, ite2 (fun e => ?_) (fun e => ⟨s7, p7, p8, r7, r8, rfl, h7, g7, z7, h8, g8, z8⟩)⟩
        refine ⟨_, rfl, _, rfl, _, _, rfl, rfl, mulG_l (by decide), _, row, 8 * (0 + (i : Int)), 4, 33, 4, rfl, s7.seq hR1, hr, by omega, by decide, by decide, by omega, by decide, fun x0 y0 y1 _ => ?_⟩
        refine ⟨_, _, rfl, rfl, _, rfl, _, rfl, _, _, rfl, rfl, mulG_l (by decide), _, _, rfl, rfl, _, _, _, _, rfl, rfl, s7.seq hR1, a4, _, _, rfl, rfl, ?_⟩
        refine ⟨_, _, rfl, by omega, pw9 _ (by omega), fun H8 t s8 nt ht => ?_⟩
        refine ⟨_, rfl, _, rfl, _, _, rfl, rfl, mulG_l (by decide), _, _, rfl, rfl, _, row, 8 * (0 + (i : Int)) + 4, 4, 33, 4, rfl, (s7.trans s8).seq hR1, hr, by omega, by decide, by decide, by omega, by decide, fun x1 z0 z1 _ => ?_⟩
        refine ⟨_, rfl, _, rfl, _, _, rfl, rfl, mulG_l (by decide), _, _, _, _, rfl, rfl, (s7.trans s8).seq hR1, a0, _, _, rfl, rfl, ?_⟩
        refine ⟨_, _, rfl, by omega, pw9 _ (by omega), fun H9 u s9 nu hu => ?_⟩
        exact ⟨(s7.trans s8).trans s9, t, u, _, _, rfl, ht.same s9, divInt_pos (by omega) (by omega), divInt_sz (by omega) (by omega) (by omega), hu, divInt_nonneg z0 (by omega), divInt_sz (by omega) (by omega) (by omega)⟩
      rintro σ H8 ⟨s8, p7, p8, r7, r8, rfl, h7, g7, z7, h8, g8, z8⟩
      have gP8 := gP.same s8
      have gA8 := gA.same s8
      have hD8 : ∀ D ∈ [pP, pA], soft (H8 D) = false := fun D hD => by
        rcases List.mem_cons.mp hD with rfl | hD
        · exact gP8.hard
        · rw [List.mem_singleton.mp hD]; exact gA8.hard
      obtain ⟨xs, ex, hxs, gP9⟩ := gP8.push (grow_f (s1.trans s8) hD8 h7) (by rw [List.length_map]; omega)
      have gA9 := gA8.other (D' := pP) (o := .lst (xs ++ [.ref p7])) (by simp) nPA.symm
      have s9 := same_mut (o := .lst (xs ++ [.ref p7])) (s1.trans s8) nP
      have hD9 : ∀ D ∈ [pP, pA], soft (upd H8 pP (.lst (xs ++ [.ref p7])) D) = false := fun D hD => by
        rcases List.mem_cons.mp hD with rfl | hD
        · exact gP9.hard
        · rw [List.mem_singleton.mp hD]; exact gA9.hard
      obtain ⟨ys, ey, hys, gA10⟩ := gA9.push (grow_f s9 hD9 (h8.mut ex)) (by rw [List.length_map]; omega)
      have gP10 := gP9.other (D' := pA) (o := .lst (ys ++ [.ref p8])) (by simp) nPA
      refine ⟨_, rfl, .inl ⟨rfl, _, SqL.of ex⟩, _, rfl, _, _, _, rfl, rfl, ex, hxs, ?_⟩
      refine ⟨_, rfl, .inl ⟨rfl, _, SqL.of ey⟩, _, rfl, _, _, _, rfl, rfl, ey, hys, ?_⟩
      refine ⟨same_mut s9 hnA, nPA, _, _, _, ps ++ [r7], as ++ [r8], rfl, by rw [List.map_append]; exact gP10, by rw [List.map_append]; exact gA10, by rw [List.length_append, lp]; rfl, by rw [List.length_append, la]; rfl, ?_, ?_⟩
      · intro r hr2
        rcases List.mem_append.mp hr2 with hr2 | hr2
        · exact fp r hr2
        · rw [List.mem_singleton.mp hr2]; exact ⟨g7, z7⟩
      · intro r hr2
        rcases List.mem_append.mp hr2 with hr2 | hr2
        · exact fa r hr2
        · rw [List.mem_singleton.mp hr2]; exact ⟨g8, z8⟩
    · rintro σ H1 ⟨s1, _, y6, y7, y8, ps, as, rfl, gP, gA, lp, la, fp, fa⟩
      obtain ⟨xs, hsx, hdx⟩ := gA.seq
      have hlx : xs.length = g := by rw [dpa_len hdx, List.length_map, la]
      refine ⟨fun σ H2 => ∃ as' : List Rat, Same H H2 ∧ Gr K H H2 [pP, pA] pP (ps.map fD) ∧ Gr K H H2 [pP, pA] pA (as'.map fD) ∧ as'.length = g ∧ (∀ r ∈ as', 0 ≤ r ∧ Sz 80 r) ∧ (∃ r ∈ as', 0 < r) ∧ σ = [some (.ref a), some (.ref a2), some (.int g), some (.int kd), some (.ref pP), some (.ref pA), y6, y7, y8, none], ?_, ?_⟩
      · refine ⟨_, rfl, pA, rfl, ⟨_, hsx⟩, fun D nD => ?_⟩
        refine lc_list (xs := xs) (fun j H2 => Same H1 H2 ∧ H2 D = some (.lst (((as.take j).map fun r => r.num).map V.int))) ⟨same_upd nD, upd_same⟩ (fun j H2 _ g => g.1.seq hsx) ?_ ?_
        · rintro j x H2 hx ⟨s2, eD⟩
          refine ⟨rfl, ?_⟩
          obtain ⟨d, hd, hxd⟩ := dpa_got hdx hx
          rw [List.getElem?_map] at hd
          cases hr2 : as[j]? with
          | none => rw [hr2] at hd; cases hd
          | some r =>
            rw [hr2] at hd
            cases Option.some.inj hd
            obtain ⟨p, rfl, hp⟩ := isF_of hxd
            have hp2 := hp.same s2
            have hj : j < as.length := (List.getElem?_eq_some_iff.mp hr2).1
            refine ⟨_, rfl, _, _, _, _, rfl, rfl, hp2, rfl, _, eD, ?_, same_mut s2 nD, ?_⟩
            · rw [List.length_map, List.length_map, List.length_take]
              exact small1000 (by omega)
            · rw [upd_same, List.take_add_one, hr2]
              simp
        · rintro H2 ⟨s2, eD⟩
          rw [hlx, ← la, List.take_of_length_le (Nat.le_refl _)] at eD
          have gP2 := gP.same s2
          have gA2 := gA.same s2
          refine ⟨_, _, rfl, SqL.of eD, by rw [List.length_map]; omega, fun m hm hM => ?_⟩
          refine ⟨rfl, _, rfl, ite2 (fun e => ?_) (fun e => ?_)⟩
          · refine ⟨by show 2 ≤ sizeLine; decide, fun t nt => ?_⟩
            have s3 : Same H2 (upd H2 t (.tup [.int 1, .int 1])) := same_upd nt
            have gP3 := gP2.same s3
            have gA3 := gA2.same s3
            obtain ⟨_, _, zs, ez, _⟩ := id gA3
            have hlz := gA3.len ez
            rw [List.length_map, la] at hlz
            obtain ⟨g', rfl⟩ : ∃ g', g = g' + 1 := ⟨g - 1, by omega⟩
            have hD3 : ∀ D ∈ [pP, pA], soft (upd H2 t (.tup [.int 1, .int 1]) D) = false := fun D hD => by
              rcases List.mem_cons.mp hD with rfl | hD
              · exact gP3.hard
              · rw [List.mem_singleton.mp hD]; exact gA3.hard
            have sAll := s1.trans (s2.trans s3)
            refine ⟨_, rfl, _, rfl, _, _, rfl, rfl, pA, zs, _, g', rfl, rfl, ez, ?_, as.set g' (Rat.divInt 1 1), same_mut sAll hnA, gP3.other (by simp) nPA, ?_, by rw [List.length_set, la], ?_, ?_, rfl⟩
            · rw [hlz, show (((g' + 1 : Nat) : Int) - 1) = (g' : Int) by omega]
              exact ixN_nat (by omega)
            · rw [List.map_set]
              exact gA3.put ez (grow_f sAll hD3 (int_f (SqT.of upd_same)))
            · intro r hr2
              rcases List.mem_or_eq_of_mem_set hr2 with hr2 | rfl
              · exact fa r hr2
              · exact ⟨divInt_nonneg (by decide) (by decide), divInt_sz (by decide) (by decide) (by decide)⟩
            · exact ⟨Rat.divInt 1 1, List.mem_of_getElem? (List.getElem?_set_self (by omega)), divInt_pos (by decide) (by decide)⟩
          · refine ⟨as, s1.trans s2, gP2, gA2, la, fa, ?_, rfl⟩
            obtain ⟨r, hr2, rfl⟩ := List.mem_map.mp hm
            exact ⟨r, hr2, pos_of (fa r hr2).1 fun z => e (decide_eq_true (by rw [z]))⟩
      · rintro σ H2 ⟨as', s2, gP2, gA2, la2, fa2, na2, rfl⟩
        have dP := gP2.done
        have dA := gA2.done
        refine ⟨_, rfl, _, rfl, by show 2 ≤ sizeLine; decide, fun t nt => ?_⟩
        exact Z (ps, as') ⟨lp, la2, fp, fa2, na2⟩ _ _ (s2.trans (same_upd nt)) (new_tup s2 nt (.cons dP (.cons dA .nil)))
theorem ok__law_data {f : Addr} {fd : FuncData} (F : Fun K "_law_data" "_law_data" s__law_data f fd) (D__law_row : Dn P w K mg base CX0 1 "_law_row" (sp__law_row K)) (D__law_purchase : Dn P w K mg base CX0 3 "_law_purchase" (sp__law_purchase K)) (m_range : mg "range" = none) (m_int : mg "int" = none) : FnOk P w K mg base CX0 4 f fd ["_law_script", "_law_place", "_law_most", "_law_linked"] (sp__law_data K) := by
  refine F.ok sc__law_data (fun vs H Q E h => ?_) (fun cdv A outer s H vs Q E hr h => ?_)
  · obtain ⟨a, ns, pl, most, linked, rfl, _⟩ := h
    rfl
  · refine ⟨_, (pss_cons (ps_set (i := 4) sc__law_data.nd rfl (Or.inl rfl) (pe_d D__law_row hr (by decide) (by rfl) pass0 (pa_cons (pv 0) (pa_cons (pv 1) (pa_cons pe_int pa_nil)))))
      (pss_cons (ps_set (i := 5) sc__law_data.nd rfl (Or.inl rfl) (pe_ix ix_list (pe_lst (pa_cons pe_int (pa_cons pe_int (pa_cons pe_int (pa_cons pe_int (pa_cons pe_int (pa_cons pe_int pa_nil))))))) (pe_op op_mod (pe_callTy call_int1 (by rfl) m_int (by decide +kernel) (pa_cons (pe_ix ix_list (pv 4) pe_int (fun _ _ => rfl)) pa_nil)) pe_int) (fun _ _ => rfl)))
      (pss_cons (ps_set (i := 6) sc__law_data.nd rfl (Or.inl rfl) (pe_op op_mod (pe_callTy call_int1 (by rfl) m_int (by decide +kernel) (pa_cons (pe_ix ix_list (pv 4) pe_int (fun _ _ => rfl)) pa_nil)) (pe_op op_add (pv 2) pe_int)))
      (pss_cons (ps_set (i := 7) sc__law_data.nd rfl (Or.inl rfl) (pe_lst pa_nil))
      (pss_cons (ps_for PassesOwn.never rfl (pi_range1 rfl m_range (pa_cons (pv 6) pa_nil)) (pg_name (i := 8) sc__law_data.nd rfl (Or.inl rfl))
      (pss_cons (ps_set (i := 9) sc__law_data.nd rfl (Or.inl rfl) (pe_ix ix_list (pe_lst (pa_cons pe_int (pa_cons pe_int (pa_cons pe_int (pa_cons pe_int (pa_cons pe_int (pa_cons pe_int (pa_cons pe_int (pa_cons pe_int pa_nil))))))))) (pe_op op_mod (pe_callTy call_int1 (by rfl) m_int (by decide +kernel) (pa_cons (pe_ix ix_list (pv 4) pe_int (fun _ _ => rfl)) pa_nil)) pe_int) (fun _ _ => rfl)))
      (pss_one (ps_expr (pe_bm PySem.F.plainAttrs_list PySem.F.slot_list_append PySem.F.type_list_append mt_append (pv 7) (pa_cons (pe_d D__law_purchase hr (by decide) (by rfl) pass0 (pa_cons (pe_d D__law_row hr (by decide) (by rfl) pass0 (pa_cons (pv 0) (pa_cons (pe_op op_add (pe_op op_add (pv 1) pe_int) (pv 8)) (pa_cons pe_int pa_nil)))) (pa_cons (pv 4) (pa_cons (pv 5) (pa_cons (pv 9) pa_nil))))) pa_nil))))))
      (pss_cons (ps_set (i := 10) sc__law_data.nd rfl (Or.inl rfl) (pe_lst pa_nil))
      (pss_cons (ps_set (i := 11) sc__law_data.nd rfl (Or.inl rfl) (pe_d D__law_row hr (by decide) (by rfl) pass0 (pa_cons (pv 0) (pa_cons (pe_op op_add (pv 1) pe_int) (pa_cons pe_int pa_nil)))))
      (C8.pss_cut (ps_if (pt_cmpR op_gt (pv 6) pe_int (nomark _))
      (pss_one (ps_for PassesOwn.never rfl (pi_range1 rfl m_range (pa_cons (pe_op op_mod (pe_callTy call_int1 (by rfl) m_int (by decide +kernel) (pa_cons (pe_ix ix_list (pv 4) pe_int (fun _ _ => rfl)) pa_nil)) (pe_op op_add (pv 3) pe_int)) pa_nil)) (pg_name (i := 12) sc__law_data.nd rfl (Or.inl rfl))
      (pss_one (ps_expr (pe_bm PySem.F.plainAttrs_list PySem.F.slot_list_append PySem.F.type_list_append mt_append (pv 10) (pa_cons (pe_tup (pa_cons (pe_op op_mod (pe_callTy call_int1 (by rfl) m_int (by decide +kernel) (pa_cons (pe_ix ix_list (pv 11) (pe_op op_mulG pe_int (pv 12)) (fun _ _ => rfl)) pa_nil)) (pv 6)) (pa_cons (pe_op op_mod (pe_callTy call_int1 (by rfl) m_int (by decide +kernel) (pa_cons (pe_ix ix_list (pv 11) (pe_op op_add (pe_op op_mulG pe_int (pv 12)) pe_int) (fun _ _ => rfl)) pa_nil)) (pv 6)) (pa_cons (pe_cmpR op_eq (pe_op op_mod (pe_callTy call_int1 (by rfl) m_int (by decide +kernel) (pa_cons (pe_ix ix_list (pv 11) (pe_op op_add (pe_op op_mulG pe_int (pv 12)) pe_int) (fun _ _ => rfl)) pa_nil)) pe_int) pe_int (nomark _)) pa_nil)))) pa_nil))))))
      pss_nil)
      (pss_one (ps_ret (pe_tup (pa_cons (pv 5) (pa_cons (pv 7) (pa_cons (pv 10) pa_nil)))))))))))))), ?_⟩
    obtain ⟨a, ns, pl, most, linked, rfl, hA, hm, hl, Z⟩ := h
    refine ⟨_, rfl, _, rfl, _, _, pl, 9, rfl, hA, by decide, fun H1 pS shape s1 nS hs eS => ?_⟩
    have hS : SqL K H1 pS (shape.map V.int) := SqL.of eS
    obtain ⟨v0, a0, b0, c0⟩ := hs.at 0 (by decide)
    obtain ⟨v1, a1, b1, c1⟩ := hs.at 1 (by decide)
    obtain ⟨v2, a2, b2, c2⟩ := hs.at 2 (by decide)
    obtain ⟨v3, a3, b3, c3⟩ := hs.at 3 (by decide)
    obtain ⟨x6, m6, h6⟩ := atI_mod (xs := [V.int 2, V.int 1, V.int 2, V.int 3, V.int 3, V.int 4]) (n := 6) (by decide) rfl v0
    obtain ⟨g, rfl, g1, g4⟩ : ∃ g : Nat, x6 = .int (g : Int) ∧ 1 ≤ g ∧ g ≤ 4 := by
      simp only [List.mem_cons, List.not_mem_nil, or_false] at m6
      rcases m6 with h | h | h | h | h | h <;> subst h
      · exact ⟨2, rfl, by decide, by decide⟩
      · exact ⟨1, rfl, by decide, by decide⟩
      · exact ⟨2, rfl, by decide, by decide⟩
      · exact ⟨3, rfl, by decide, by decide⟩
      · exact ⟨3, rfl, by decide, by decide⟩
      · exact ⟨4, rfl, by decide, by decide⟩
    refine ⟨(show 6 ≤ sizeLine by decide), fun t nt => ?_⟩
    have s2 := s1.trans (same_upd (o := .lst [.int 2, .int 1, .int 2, .int 3, .int 3, .int 4]) nt)
    have hS2 : SqL K (upd H1 t (.lst [.int 2, .int 1, .int 2, .int 3, .int 3, .int 4])) pS (shape.map V.int) := (same_upd nt).seq hS
    refine ⟨_, rfl, _, _, _, _, rfl, rfl, hS2, a0, .inl ⟨_, rfl, _, _, rfl, rfl, by show (0 : Int) < 6; decide, _, _, _, _, rfl, rfl, SqL.of upd_same, h6, ?_⟩⟩
    have eS2 : upd H1 t (.lst [.int 2, .int 1, .int 2, .int 3, .int 3, .int 4]) pS = some (.lst (shape.map V.int)) := same_upd nt _ _ eS
    generalize upd H1 t (.lst [.int 2, .int 1, .int 2, .int 3, .int 3, .int 4]) = H2 at s2 hS2 eS2
    have hc0 : 0 ≤ v1 % ((most : Int) + 1) := Int.emod_nonneg _ (by omega)
    have hc1 := Int.emod_lt_of_pos v1 (show (0 : Int) < (most : Int) + 1 by omega)
    obtain ⟨cnt, ec⟩ := Int.eq_ofNat_of_zero_le hc0
    refine ⟨_, rfl, _, _, _, _, rfl, rfl, hS2, a1, .inl ⟨_, rfl, _, rfl, _, _, rfl, rfl, _, _, rfl, rfl, (show (0 : Int) < (most : Int) + 1 by omega), ?_⟩⟩
    rw [show (fun i j : Int => V.int (i % j)) v1 ((most : Int) + 1) = V.int (cnt : Int) from congrArg V.int ec]
    refine ⟨(show 0 ≤ sizeLine by decide), fun pB nB => ?_⟩
    have s3 := s2.trans (same_upd (o := .lst []) nB)
    have hSB : pS ≠ pB := fun z => by
      rw [← z, eS2] at nB
      cases nB
    refine ⟨_, rfl, _, rfl, by omega, by omega, ?_⟩
    refine for_range (lo := 0) (n := cnt) (fun i σ H3 => Same H H3 ∧ SqL K H3 pS (shape.map V.int) ∧ ∃ (y8 y9 : Option V) (bs : List Buy), σ = [some (.ref a), some (.int (pl : Int)), some (.int (most : Int)), some (.int (linked : Int)), some (.ref pS), some (.int (g : Int)), some (.int (cnt : Int)), some (.ref pB), y8, y9, none, none, none] ∧ Gr K H H3 [pB] pB (bs.map bD) ∧ bs.length = i ∧ ∀ b ∈ bs, okBuy g b) ⟨s3, (same_upd nB).seq hS2, _, _, [], rfl, Gr.start s2 nB (by simp), rfl, fun b hb => by cases hb⟩ ?_ ?_
    · rintro i σ H3 hi ⟨s3, hS3, y8, y9, bs, rfl, gB, lb, fb⟩
      obtain ⟨x8, m8, h8⟩ := atI_mod (xs := [V.int 0, V.int 1, V.int 2, V.int 4, V.int 0, V.int 1, V.int 2, V.int 3]) (n := 8) (by decide) rfl v2
      obtain ⟨kd, rfl⟩ : ∃ kd : Int, x8 = .int kd := by
        simp only [List.mem_cons, List.not_mem_nil, or_false] at m8
        rcases m8 with h | h | h | h | h | h | h | h <;> exact ⟨_, h⟩
      refine ⟨(show 8 ≤ sizeLine by decide), fun t nt => ?_⟩
      have s4 := same_upd (o := .lst [.int 0, .int 1, .int 2, .int 4, .int 0, .int 1, .int 2, .int 3]) nt
      refine ⟨_, rfl, _, _, _, _, rfl, rfl, s4.seq hS3, a2, .inl ⟨_, rfl, _, _, rfl, rfl, by show (0 : Int) < 8; decide, _, _, _, _, rfl, rfl, SqL.of upd_same, h8, ?_⟩⟩
      have gB4 := gB.same s4
      obtain ⟨_, _, xs, ex, _⟩ := id gB4
      refine ⟨_, rfl, .inl ⟨rfl, _, SqL.of ex⟩, _, rfl, _, rfl, _, _, rfl, rfl, _, rfl, _, _, rfl, rfl, _, _, pl + 1 + i, 33, ?_, (s3.trans s4).seq hA, by decide, fun H5 pR row s5 nR hr eR => ?_⟩
      · show [V.ref a, V.int ((pl : Int) + 1 + (0 + (i : Int))), V.int 33] = _
        rw [show ((pl : Int) + 1 + (0 + (i : Int))) = ((pl + 1 + i : Nat) : Int) by omega]
        rfl
      have s45 := s4.trans s5
      have gB5 := gB4.same s5
      refine ⟨_, rfl, _, rfl, _, rfl, pR, pS, row, shape, g, kd, rfl, SqL.of eR, hr, s45.seq hS3, hs, g1, g4, fun b hb H6 v s6 hv => ?_⟩
      have hD5 : ∀ D ∈ [pB], soft (H5 D) = false := fun D hD => by
        rw [List.mem_singleton.mp hD]; exact gB5.hard
      obtain ⟨ys, ey, hys, gB7⟩ := (gB5.same s6).push (new_in (s3.trans s45) hD5 hv) (by rw [List.length_map]; omega)
      refine ⟨_, _, _, rfl, rfl, ey, hys, ?_⟩
      refine ⟨same_mut ((s3.trans s45).trans s6) gB.2.1, ?_, _, _, bs ++ [b], rfl, by rw [List.map_append]; exact gB7, by rw [List.length_append, lb]; rfl, ?_⟩
      · exact sql_keep hSB ((s45.trans s6).seq hS3)
      · intro c hc
        rcases List.mem_append.mp hc with hc | hc
        · exact fb c hc
        · rw [List.mem_singleton.mp hc]; exact hb
    · rintro σ H7 ⟨s7, hS7, y8, y9, bs, rfl, gB, lb, fb⟩
      have dB := gB.done
      refine ⟨(show 0 ≤ sizeLine by decide), fun pL nL => ?_⟩
      have gL8 := Gr.start (Ds := [pL]) (K := K) (Same.refl H7) nL (by simp)
      have s8 : Same H7 (upd H7 pL (.lst [])) := same_upd nL
      refine ⟨_, rfl, _, rfl, _, _, rfl, rfl, _, _, pl + 8, 18, rfl, (s7.trans s8).seq hA, by decide, fun H9 pR row s9 nR hr eR => ?_⟩
      have hR9 : SqL K H9 pR (row.map V.int) := SqL.of eR
      have gL9 := gL8.same s9
      have nRL : pR ≠ pL := fun z => by rw [z, upd_same] at nR; cases nR
      refine ⟨fun σ Hm => Same H7 Hm ∧ ∃ (y : Option V) (ls : List (Nat × Nat × Bool)), σ = [some (.ref a), some (.int (pl : Int)), some (.int (most : Int)), some (.int (linked : Int)), some (.ref pS), some (.int (g : Int)), some (.int (cnt : Int)), some (.ref pB), y8, y9, some (.ref pL), some (.ref pR), y] ∧ Gr K H7 Hm [pL] pL (ls.map lD) ∧ ls.length ≤ linked ∧ ∀ l ∈ ls, l.1 < cnt ∧ l.2.1 < cnt, ?_, ?_⟩
      · refine ⟨_, rfl, _, _, rfl, rfl, _, rfl, ite2 (fun e => ?_) (fun e => ⟨s8.trans s9, _, [], rfl, gL9, Nat.zero_le _, fun l hl => by cases hl⟩)⟩
        have cp : 0 < (cnt : Int) := of_decide_eq_true e
        have hk0 : 0 ≤ v3 % ((linked : Int) + 1) := Int.emod_nonneg _ (by omega)
        have hk1 := Int.emod_lt_of_pos v3 (show (0 : Int) < (linked : Int) + 1 by omega)
        obtain ⟨kn, ek⟩ := Int.eq_ofNat_of_zero_le hk0
        refine ⟨_, rfl, _, _, _, _, rfl, rfl, (s8.trans s9).seq hS7, a3, .inl ⟨_, rfl, _, rfl, _, _, rfl, rfl, _, _, rfl, rfl, (show (0 : Int) < (linked : Int) + 1 by omega), ?_⟩⟩
        rw [show (fun i j : Int => V.int (i % j)) v3 ((linked : Int) + 1) = V.int (kn : Int) from congrArg V.int ek]
        refine ⟨_, rfl, by omega, by omega, ?_⟩
        refine for_range (lo := 0) (n := kn) (fun i σ Hm => Same H7 Hm ∧ SqL K Hm pR (row.map V.int) ∧ ∃ (y : Option V) (ls : List (Nat × Nat × Bool)), σ = [some (.ref a), some (.int (pl : Int)), some (.int (most : Int)), some (.int (linked : Int)), some (.ref pS), some (.int (g : Int)), some (.int (cnt : Int)), some (.ref pB), y8, y9, some (.ref pL), some (.ref pR), y] ∧ Gr K H7 Hm [pL] pL (ls.map lD) ∧ ls.length = i ∧ ∀ l ∈ ls, l.1 < cnt ∧ l.2.1 < cnt) ⟨s8.trans s9, hR9, _, [], rfl, gL9, rfl, fun l hl => by cases hl⟩ ?_ ?_
        · rintro i σ Hm hi ⟨sm, hRm, y, ls, rfl, gL, ll, fl⟩
          have atc : ∀ c : Nat, c < 3 → ∃ v : Int, atI (row.map V.int) (3 * (0 + (i : Int)) + (c : Int)) = some (.int v) := fun c hc => by
            obtain ⟨v, h1, h2⟩ := hr.at (3 * i + c) (by omega)
            refine ⟨v, ?_⟩
            rw [← h1]
            congr 1
            omega
          obtain ⟨w0, f0⟩ := atc 0 (by decide)
          rw [show (3 * (0 + (i : Int)) + ((0 : Nat) : Int)) = 3 * (0 + (i : Int)) by omega] at f0
          obtain ⟨w1, f1⟩ := atc 1 (by decide)
          obtain ⟨w2, f2⟩ := atc 2 (by decide)
          obtain ⟨x0, ex0⟩ := Int.eq_ofNat_of_zero_le (Int.emod_nonneg w0 (show (cnt : Int) ≠ 0 by omega))
          obtain ⟨x1, ex1⟩ := Int.eq_ofNat_of_zero_le (Int.emod_nonneg w1 (show (cnt : Int) ≠ 0 by omega))
          have y0 := Int.emod_lt_of_pos w0 cp
          have y1 := Int.emod_lt_of_pos w1 cp
          obtain ⟨_, _, xs, ex, _⟩ := id gL
          refine ⟨_, rfl, .inl ⟨rfl, _, SqL.of ex⟩, ?_⟩
          refine ⟨_, rfl, _, rfl, _, _, rfl, rfl, mulG_l (by decide), _, _, _, _, rfl, rfl, hRm, f0, .inl ⟨_, rfl, _, rfl, _, _, rfl, rfl, cp, ?_⟩⟩
          refine ⟨_, rfl, _, rfl, _, _, rfl, rfl, mulG_l (by decide), _, _, rfl, rfl, _, _, _, _, rfl, rfl, hRm, f1, .inl ⟨_, rfl, _, rfl, _, _, rfl, rfl, cp, ?_⟩⟩
          refine ⟨_, rfl, _, rfl, _, _, rfl, rfl, mulG_l (by decide), _, _, rfl, rfl, _, _, _, _, rfl, rfl, hRm, f2, .inl ⟨_, rfl, _, _, rfl, rfl, by show (0 : Int) < 2; decide, rfl, (show 3 ≤ sizeLine by decide), fun t nt => ?_⟩⟩
          have hDm : ∀ D ∈ [pL], soft (Hm D) = false := fun D hD => by
            rw [List.mem_singleton.mp hD]; exact gL.hard
          have st : Same Hm (upd Hm t (.tup [(fun i j : Int => V.int (i % j)) w0 (cnt : Int), (fun i j : Int => V.int (i % j)) w1 (cnt : Int), V.bl (decide ((fun i j : Int => V.int (i % j)) w2 2 = V.int 1))])) := same_upd nt
          obtain ⟨ys, ey, hys, gL2⟩ := (gL.same st).push (d := lD (x0, x1, decide ((fun i j : Int => V.int (i % j)) w2 2 = V.int 1))) (grow_tup sm hDm nt (.cons (by rw [show (fun i j : Int => V.int (i % j)) w0 (cnt : Int) = V.int (x0 : Int) from congrArg V.int ex0]; exact .int _) (.cons (by rw [show (fun i j : Int => V.int (i % j)) w1 (cnt : Int) = V.int (x1 : Int) from congrArg V.int ex1]; exact .int _) (.cons (.bl _) .nil)))) (by rw [List.length_map]; omega)
          refine ⟨_, _, _, rfl, rfl, ey, hys, ?_⟩
          refine ⟨same_mut (sm.trans st) nL, sql_keep nRL (st.seq hRm), _, ls ++ [(x0, x1, decide ((fun i j : Int => V.int (i % j)) w2 2 = V.int 1))], rfl, by rw [List.map_append]; exact gL2, by rw [List.length_append, ll]; rfl, ?_⟩
          intro l hl2
          rcases List.mem_append.mp hl2 with hl2 | hl2
          · exact fl l hl2
          · rw [List.mem_singleton.mp hl2]
            exact ⟨by show x0 < cnt; omega, by show x1 < cnt; omega⟩
        · rintro σ Hm ⟨sm, hRm, y, ls, rfl, gL, ll, fl⟩
          exact ⟨sm, _, ls, rfl, gL, by omega, fl⟩
      · rintro σ Hm ⟨sm, y, ls, rfl, gL, ll, fl⟩
        have dL := gL.done
        refine ⟨_, rfl, _, rfl, _, rfl, (show 3 ≤ sizeLine by decide), fun t nt => ?_⟩
        have sAll := s7.trans sm
        refine Z g bs ls ⟨g1, g4, by omega, fb, ll, by rw [lb]; exact fl⟩ _ _ (sAll.trans (same_upd nt)) (new_tup sAll nt (.cons (.int _) (.cons (dp_same (fresh_mono sm) dB) (.cons (dp_same (fresh_old s7) dL) .nil))))
theorem ok_Data_init {f : Addr} {fd : FuncData} {C_Data : Addr} (F : Fun K "__init__" "Data.__init__" s_Data_init f fd) (m_list : mg "list" = none) (T_Data : Cls K C_Data) (na_Data_goods : NoAttr K C_Data "goods") (na_Data_buys : NoAttr K C_Data "buys") (na_Data_links : NoAttr K C_Data "links") : FnOk P w K mg base CX0 1 f fd ["self", "goods", "buys", "links"] (sp_Data_init K C_Data) := by
  refine F.ok sc_Data_init (fun vs H Q E h => ?_) (fun cdv A outer s H vs Q E hr h => ?_)
  · obtain ⟨H₀, p, dx, g, bs, ls, vb, vl, rfl, _⟩ := h
    rfl
  · refine ⟨_, (pss_cons (ps_fld (pv 0) (pv 1) rfl)
      (pss_cons (ps_fld (pv 0) (pe_lc (own := [("prices", 4), ("amounts", 5)]) (g := gTup K 2 (gCons (gName 4) (gCons (gName 5) gNil))) (tt := tYes) rfl sc_Data_init.nd (pi_list (pv 2)) (blkOk_by (N := N_Data_init) (sc := defScope s_Data_init) (by decide +kernel)) (fun _ _ _ _ _ => (pg_tup rfl (pgs_cons (pg_name (i := 4) sc_Data_init.nd rfl (Or.inl rfl)) (pgs_cons (pg_name (i := 5) sc_Data_init.nd rfl (Or.inl rfl)) pgs_nil)))) (fun _ _ _ _ _ => pts_nil) (fun _ _ _ _ _ => (pe_tup (pa_cons (pe_callTy (call_list_ofK (K := K) rfl) (by rfl) m_list (by decide +kernel) (pa_cons (pv 4) pa_nil)) (pa_cons (pe_callTy (call_list_ofK (K := K) rfl) (by rfl) m_list (by decide +kernel) (pa_cons (pv 5) pa_nil)) pa_nil))))) rfl)
      (pss_one (ps_fld (pv 0) (pe_callTy call_list_of (by rfl) m_list (by decide +kernel) (pa_cons (pv 3) pa_nil)) rfl)))), ?_⟩
    obtain ⟨H₀, p, dx, g, bs, ls, vb, vl, rfl, s0, np, hp, hB, hL, nb, nl, lb, Z⟩ := h
    obtain ⟨a, xs, rfl, sA, hx⟩ := dp_lst hB
    obtain ⟨b, ys, rfl, sB, hy⟩ := dp_lst hL
    have lx : xs.length = bs.length := by rw [dpa_len hx, List.length_map]
    refine ⟨_, rfl, _, rfl, p, C_Data, dx, [], rfl, hp, T_Data, na_Data_goods, (by show 0 < 1000; decide), ?_⟩
    have s1 : Same H₀ (upd H p (.ins C_Data dx (putF "goods" (.int (g : Int)) []))) := same_mut s0 np
    have hp1 : upd H p (.ins C_Data dx (putF "goods" (.int (g : Int)) [])) p = some (.ins C_Data dx (putF "goods" (.int (g : Int)) [])) := upd_same
    generalize upd H p (.ins C_Data dx (putF "goods" (.int (g : Int)) [])) = H1 at s1 hp1 ⊢
    refine ⟨_, rfl, a, rfl, ⟨_, s1.seq sA⟩, fun D nD => ?_⟩
    have nDp : D ≠ p := fun z => by rw [z, hp1] at nD; cases nD
    refine lc_list (xs := xs) (fun i H2 => Same H1 H2 ∧ Gr K H₀ H2 [D, p] D ((bs.take i).map bD)) ⟨same_upd nD, by rw [List.take_zero]; exact Gr.start s1 nD (by simp)⟩ (fun i H2 _ h => (s1.trans h.1).seq sA) ?_ ?_
    · rintro i x H2 hi ⟨s2, gD⟩
      obtain ⟨d, hd, hdx⟩ := dpa_got hx hi
      rw [List.getElem?_map] at hd
      cases eb : bs[i]? with
      | none => rw [eb] at hd; cases hd
      | some c =>
        rw [eb] at hd
        cases Option.some.inj hd
        obtain ⟨t, p', q, rfl, ht, hpp, hqq⟩ := buy_of (dp_same (s1.trans s2) hdx)
        obtain ⟨as, hpl, hpf⟩ := hpp
        obtain ⟨cs, hql, hqf⟩ := hqq
        refine ⟨t, _, rfl, ht, rfl, _, _, rfl, _, _, rfl, rfl, rfl, ?_⟩
        refine ⟨_, rfl, p', _, rfl, .inl hpl, fun l1 n1 => ?_⟩
        have s3 : Same H2 (upd H2 l1 (.lst (as.map V.ref))) := same_upd n1
        have d1 := new_fs (Same.refl H2) n1 hpf
        refine ⟨_, rfl, q, _, rfl, .inl (s3.seq hql), fun l2 n2 => ?_⟩
        have s4 : Same (upd H2 l1 (.lst (as.map V.ref))) (upd (upd H2 l1 (.lst (as.map V.ref))) l2 (.lst (cs.map V.ref))) := same_upd n2
        have d2 := new_fs s3 n2 (hqf.same s3)
        refine ⟨by show 2 ≤ sizeLine; decide, fun t2 nt2 => ?_⟩
        have s5 := (s3.trans s4).trans (same_upd (o := .tup [.ref l1, .ref l2]) nt2)
        have d3 := new_tup (s3.trans s4) nt2 (.cons (dp_same (fresh_mono s4) d1) (.cons d2 .nil))
        obtain ⟨acc, e1, e2, g2⟩ := (gD.same s5).push (new_in (s1.trans s2) (fun b hb => by
          rcases List.mem_cons.mp hb with rfl | hb
          · exact gD.hard
          · rw [List.mem_singleton.mp hb, s2 _ _ hp1]; rfl) d3) (by rw [List.length_map, List.length_take]; omega)
        refine ⟨acc, e1, e2, same_mut (s2.trans s5) nD, ?_⟩
        rw [List.take_add_one, eb, List.map_append]
        exact g2
    · rintro H2 ⟨s2, gD⟩
      rw [lx, List.take_of_length_le (Nat.le_refl _)] at gD
      have dB := gD.done2 (by simpa using nDp)
      have hp2 := s2 _ _ hp1
      have s12 := s1.trans s2
      refine ⟨_, rfl, p, C_Data, dx, _, rfl, hp2, T_Data, na_Data_buys, ?_, ?_⟩
      · exact Nat.lt_of_le_of_lt (putF_len _) (show 1 < 1000 by decide)
      rw [← but_upd (D := p) (o := .ins C_Data dx (putF "buys" (.ref D) (putF "goods" (.int (g : Int)) []))) (by simp)] at dB
      have s3 : Same H₀ (upd H2 p (.ins C_Data dx (putF "buys" (.ref D) (putF "goods" (.int (g : Int)) [])))) := same_mut s12 np
      have hp3 : upd H2 p (.ins C_Data dx (putF "buys" (.ref D) (putF "goods" (.int (g : Int)) []))) p = some (.ins C_Data dx (putF "buys" (.ref D) (putF "goods" (.int (g : Int)) []))) := upd_same
      generalize upd H2 p (.ins C_Data dx (putF "buys" (.ref D) (putF "goods" (.int (g : Int)) []))) = H3 at s3 hp3 dB ⊢
      refine ⟨_, rfl, b, _, rfl, .inl (s3.seq sB), fun l nl2 => ?_⟩
      have s4 : Same H3 (upd H3 l (.lst ys)) := same_upd nl2
      have nlp : l ≠ p := fun z => by rw [z, hp3] at nl2; cases nl2
      have dL : Dp K (but (fresh H₀ (upd H3 l (.lst ys))) [p]) (.ref l) (lsD ls) := by
        refine .lst (SqL.of ?_) (grow_ls (s3.trans s4) (fun b hb => by rw [List.mem_singleton.mp hb, s4 _ _ hp3]; rfl) (dpa_same (s3.trans s4) hy))
        rw [but_at (by simpa using nlp), fresh_at (s3.free nl2)]
        exact upd_same
      have dB4 := dp_same (but_mono (fresh_mono s4)) dB
      have hp4 := s4 _ _ hp3
      have s34 := s3.trans s4
      generalize upd H3 l (.lst ys) = H4 at s34 hp4 dL dB4 ⊢
      refine ⟨_, rfl, p, C_Data, dx, _, rfl, hp4, T_Data, na_Data_links, ?_, ?_⟩
      · exact Nat.lt_of_le_of_lt (putF_len _) (Nat.lt_of_le_of_lt (Nat.succ_le_succ (putF_len _)) (show 2 < 1000 by decide))
      have lk : ∀ n : Str, (putF "links" (V.ref l) (putF "buys" (V.ref D) (putF "goods" (V.int (g : Int)) []))).lookup n = if n = "links" then some (V.ref l) else if n = "buys" then some (V.ref D) else if n = "goods" then some (V.int (g : Int)) else none := fun n => by
        rw [lookup_putF, lookup_putF, lookup_putF]
        rfl
      refine Z _ _ (same_mut s34 np) upd_same ⟨⟨_, _, _, upd_same, T_Data, na_Data_goods, ?_⟩, .ref D, .ref l, ⟨_, _, _, upd_same, T_Data, na_Data_buys, ?_⟩, ?_, ⟨_, _, _, upd_same, T_Data, na_Data_links, ?_⟩, ?_⟩
      · rw [lk, if_neg (by decide +kernel), if_neg (by decide +kernel), if_pos rfl]
      · rw [lk, if_neg (by decide +kernel), if_pos rfl]
      · refine dp_same (but_sub (Ds := [p])) ?_
        rw [but_upd (Ds := [p]) (by simp)]
        exact dB4
      · rw [lk, if_pos rfl]
      · refine dp_same (but_sub (Ds := [p])) ?_
        rw [but_upd (Ds := [p]) (by simp)]
        exact dL
theorem ok__law_made {f : Addr} {fd : FuncData} {C_Data : Addr} (F : Fun K "_law_made" "_law_made" s__law_made f fd) (m_list : mg "list" = none) (M_Data : DMk P w K mg base CX0 1 "Data" C_Data (sp_Data_init K C_Data)) : FnOk P w K mg base CX0 3 f fd ["_law_goods", "_law_buys", "_law_links"] (sp__law_made K) := by
  refine F.ok sc__law_made (fun vs H Q E h => ?_) (fun cdv A outer s H vs Q E hr h => ?_)
  · obtain ⟨g, bs, ls, vb, vl, rfl, _⟩ := h
    rfl
  · refine ⟨_, (pss_one (ps_ret (pe_dmake M_Data hr (by decide) (by rfl) pass0 (pa_cons (pv 0) (pa_cons (pe_lc (own := [("_law_one", 3)]) (g := gName 3) (tt := tYes) rfl sc__law_made.nd (pi_list (pv 1)) (blkOk_by (N := N__law_made) (sc := defScope s__law_made) (by decide +kernel)) (fun _ _ _ _ _ => (pg_name (i := 3) sc__law_made.nd rfl (Or.inl rfl))) (fun _ _ _ _ _ => pts_nil) (fun _ _ _ _ _ => (pe_tup (pa_cons (pe_callTy (call_list_ofK (K := K) rfl) (by rfl) m_list (by decide +kernel) (pa_cons (pe_ix (ix_tupK (K := K) rfl) (pv 3) pe_int (fun _ _ => rfl)) pa_nil)) (pa_cons (pe_callTy (call_list_ofK (K := K) rfl) (by rfl) m_list (by decide +kernel) (pa_cons (pe_ix (ix_tupK (K := K) rfl) (pv 3) pe_int (fun _ _ => rfl)) pa_nil)) pa_nil))))) (pa_cons (pe_callTy call_list_of (by rfl) m_list (by decide +kernel) (pa_cons (pv 2) pa_nil)) pa_nil)))))), ?_⟩
    obtain ⟨g, bs, ls, vb, vl, rfl, hB, hL, nb, nl, lb, Z⟩ := h
    obtain ⟨a, xs, rfl, sA, hx⟩ := dp_lst hB
    obtain ⟨b, ys, rfl, sB, hy⟩ := dp_lst hL
    have lx : xs.length = bs.length := by rw [dpa_len hx, List.length_map]
    refine ⟨_, rfl, _, rfl, a, rfl, ⟨_, sA⟩, fun D nD => ?_⟩
    refine lc_list (xs := xs) (fun i H2 => Same H H2 ∧ Gr K H H2 [D] D ((bs.take i).map bD)) ⟨same_upd nD, by rw [List.take_zero]; exact Gr.start (Same.refl _) nD (by simp)⟩ (fun i H2 _ h => h.1.seq sA) ?_ ?_
    · rintro i x H2 hi ⟨s2, gD⟩
      obtain ⟨d, hd, hdx⟩ := dpa_got hx hi
      rw [List.getElem?_map] at hd
      cases eb : bs[i]? with
      | none => rw [eb] at hd; cases hd
      | some c =>
        rw [eb] at hd
        cases Option.some.inj hd
        obtain ⟨t, p, q, rfl, ht, hp, hq⟩ := buy_of (dp_same s2 hdx)
        refine ⟨rfl, ?_⟩
        obtain ⟨as, hpl, hpf⟩ := hp
        obtain ⟨cs, hql, hqf⟩ := hq
        refine ⟨_, rfl, _, _, _, _, rfl, rfl, ht, rfl, p, _, rfl, .inl hpl, fun l1 n1 => ?_⟩
        have s3 : Same H2 (upd H2 l1 (.lst (as.map V.ref))) := same_upd n1
        have d1 := new_fs (Same.refl H2) n1 hpf
        have ht3 := sqt_same s3 ht
        refine ⟨_, rfl, _, _, _, _, rfl, rfl, ht3, rfl, q, _, rfl, .inl (s3.seq hql), fun l2 n2 => ?_⟩
        have s4 : Same (upd H2 l1 (.lst (as.map V.ref))) (upd (upd H2 l1 (.lst (as.map V.ref))) l2 (.lst (cs.map V.ref))) := same_upd n2
        have d2 := new_fs s3 n2 (hqf.same s3)
        refine ⟨by show 2 ≤ sizeLine; decide, fun t2 nt2 => ?_⟩
        have s5 := (s3.trans s4).trans (same_upd (o := .tup [.ref l1, .ref l2]) nt2)
        have d3 := new_tup (s3.trans s4) nt2 (.cons (dp_same (fresh_mono s4) d1) (.cons d2 .nil))
        obtain ⟨acc, e1, e2, g2⟩ := (gD.same s5).push (new_in s2 (fun b hb => by rw [List.mem_singleton.mp hb]; exact gD.hard) d3) (by rw [List.length_map, List.length_take]; omega)
        refine ⟨acc, e1, e2, same_mut (s2.trans s5) nD, ?_⟩
        rw [List.take_add_one, eb, List.map_append]
        exact g2
    · rintro H2 ⟨s2, gD⟩
      rw [lx, List.take_of_length_le (Nat.le_refl _)] at gD
      refine ⟨_, rfl, b, _, rfl, .inl (s2.seq sB), fun l nl2 => ?_⟩
      have s3 : Same H2 (upd H2 l (.lst ys)) := same_upd nl2
      have dB := dp_same ((fresh_mono s3).trans fresh_sub) gD.done
      have dL : Dp K (upd H2 l (.lst ys)) (.ref l) (lsD ls) := .lst (SqL.of upd_same) (dpa_same (s2.trans s3) hy)
      generalize upd H2 l (.lst ys) = H3 at s3 dB dL
      refine fun x dx nx ndx hne => ⟨H3, x, dx, g, bs, ls, .ref D, .ref l, rfl, fun b o e => ?_, nx, upd_same, dB, dL, nb, nl, lb, fun H' _ s' _ hN => ⟨rfl, Z H' x ((s2.trans s3).trans s') ((s2.trans s3).free nx) (hN.old (s2.trans s3))⟩⟩
      rw [upd_ne (ne_of_none e nx), upd_ne (ne_of_none e ndx)]
      exact e
theorem ok__law_is_integer {f : Addr} {fd : FuncData} (F : Fun K "_law_is_integer" "_law_is_integer" s__law_is_integer f fd) (m_isinstance : mg "isinstance" = none) (m_int : mg "int" = none) (m_bool : mg "bool" = none) : FnOk P w K mg base CX0 1 f fd ["_law_x"] (sp__law_is_integer K) := by
  refine F.ok sc__law_is_integer (fun vs H Q E h => ?_) (fun cdv A outer s H vs Q E hr h => ?_)
  · obtain ⟨i, rfl, _⟩ := h
    rfl
  · refine ⟨_, (pss_one (ps_ret (pe_and (pe_callB call_isi (by rfl) m_isinstance (by decide +kernel) (pa_cons (pv 0) (pa_cons (pe_bltn (v := .ty "int") (by rfl) m_int (by decide +kernel) rfl) pa_nil))) (pe_one (pe_not (pe_callB call_isi (by rfl) m_isinstance (by decide +kernel) (pa_cons (pv 0) (pa_cons (pe_bltn (v := .ty "bool") (by rfl) m_bool (by decide +kernel) rfl) pa_nil)))))))), ?_⟩
    obtain ⟨i, rfl, Z⟩ := h
    refine ⟨_, rfl, _, _, _, _, true, rfl, .ty _, .base (.int i), kit_ty (by decide +kernel), true, rfl, iteT ?_⟩
    refine ⟨_, rfl, _, _, _, _, false, rfl, .ty _, .base (.int i), kit_ty (by decide +kernel), false, rfl, ?_⟩
    exact Z
theorem ok__law_same {f : Addr} {fd : FuncData} (F : Fun K "_law_same" "_law_same" s__law_same f fd) (D__law_is_integer : Dn P w K mg base CX0 1 "_law_is_integer" (sp__law_is_integer K)) {n : Nat} (D__law_same : Dn P w K mg base CX0 (1 + n) "_law_same" (sp__law_same n K)) (m_isinstance : mg "isinstance" = none) (m_bool : mg "bool" = none) (m_int : mg "int" = none) (m_list : mg "list" = none) (m_tuple : mg "tuple" = none) (m_range : mg "range" = none) (m_str : mg "str" = none) (m_len : mg "len" = none) : FnOk P w K mg base CX0 (1 + n + 1) f fd ["_law_actual", "_law_due"] (sp__law_same (n + 1) K) := by
  refine F.ok sc__law_same (fun vs H Q E h => ?_) (fun cdv A outer s H vs Q E hr h => ?_)
  · obtain ⟨x, y, d, rfl, _⟩ := h
    rfl
  · refine ⟨_, (pss_cons (ps_if (PW.pt (pw_or (pt_val (pe_callB call_isi (by rfl) m_isinstance (by decide +kernel) (pa_cons (pv 1) (pa_cons (pe_bltn (v := .ty "list") (by rfl) m_list (by decide +kernel) rfl) pa_nil)))) (pw_or1 (pt_val (pe_callB call_isi (by rfl) m_isinstance (by decide +kernel) (pa_cons (pv 1) (pa_cons (pe_bltn (v := .ty "tuple") (by rfl) m_tuple (by decide +kernel) rfl) pa_nil)))))))
      (pss_cons (ps_if (PW.pt (pw_or (pt_cmpR op_ne (pe_callB call_isi (by rfl) m_isinstance (by decide +kernel) (pa_cons (pv 0) (pa_cons (pe_bltn (v := .ty "list") (by rfl) m_list (by decide +kernel) rfl) pa_nil))) (pe_callB call_isi (by rfl) m_isinstance (by decide +kernel) (pa_cons (pv 1) (pa_cons (pe_bltn (v := .ty "list") (by rfl) m_list (by decide +kernel) rfl) pa_nil))) (nomark _)) (pw_or1 (pt_cmpR op_ne (pe_callB call_isi (by rfl) m_isinstance (by decide +kernel) (pa_cons (pv 0) (pa_cons (pe_bltn (v := .ty "tuple") (by rfl) m_tuple (by decide +kernel) rfl) pa_nil))) (pe_callB call_isi (by rfl) m_isinstance (by decide +kernel) (pa_cons (pv 1) (pa_cons (pe_bltn (v := .ty "tuple") (by rfl) m_tuple (by decide +kernel) rfl) pa_nil))) (nomark _)))))
      (pss_one (ps_ret pe_bl))
      pss_nil)
      (pss_cons (ps_if (pt_cmpR op_ne (pe_callB call_len_seq (by rfl) m_len (by decide +kernel) (pa_cons (pv 0) pa_nil)) (pe_callB call_len_seq (by rfl) m_len (by decide +kernel) (pa_cons (pv 1) pa_nil)) (nomark _))
      (pss_one (ps_ret pe_bl))
      pss_nil)
      (pss_cons (ps_for PassesOwn.never rfl (pi_range1 rfl m_range (pa_cons (pe_callB call_len_seq (by rfl) m_len (by decide +kernel) (pa_cons (pv 1) pa_nil)) pa_nil)) (pg_name (i := 2) sc__law_same.nd rfl (Or.inl rfl))
      (pss_one (ps_if (pt_not (pt_val (pe_d D__law_same hr (by omega) (by rfl) pass0 (pa_cons (pe_ix ix_seq (pv 0) (pv 2) (fun _ _ => rfl)) (pa_cons (pe_ix ix_seq (pv 1) (pv 2) (fun _ _ => rfl)) pa_nil)))))
      (pss_one (ps_ret pe_bl))
      pss_nil)))
      (pss_one (ps_ret pe_bl)))))
      pss_nil)
      (pss_cons (ps_if (pt_val (pe_callB call_isi (by rfl) m_isinstance (by decide +kernel) (pa_cons (pv 1) (pa_cons (pe_bltn (v := .ty "bool") (by rfl) m_bool (by decide +kernel) rfl) pa_nil))))
      (pss_one (ps_ret (pe_and (pe_callB call_isi (by rfl) m_isinstance (by decide +kernel) (pa_cons (pv 0) (pa_cons (pe_bltn (v := .ty "bool") (by rfl) m_bool (by decide +kernel) rfl) pa_nil))) (pe_one (pe_cmpR op_eq (pv 0) (pv 1) (nomark _))))))
      pss_nil)
      (pss_cons (ps_if (pt_val (pe_callB call_isi (by rfl) m_isinstance (by decide +kernel) (pa_cons (pv 1) (pa_cons (pe_bltn (v := .ty "int") (by rfl) m_int (by decide +kernel) rfl) pa_nil))))
      (pss_one (ps_ret (pe_and (pe_d D__law_is_integer hr (by omega) (by rfl) pass0 (pa_cons (pv 0) pa_nil)) (pe_one (pe_cmpR op_eq (pv 0) (pv 1) (nomark _))))))
      pss_nil)
      (pss_one (ps_ret (pe_and (pe_callB call_isi (by rfl) m_isinstance (by decide +kernel) (pa_cons (pv 0) (pa_cons (pe_bltn (v := .ty "str") (by rfl) m_str (by decide +kernel) rfl) pa_nil))) (pe_one (pe_cmpR op_eq (pv 0) (pv 1) (nomark _))))))))), ?_⟩
    obtain ⟨x, y, d, rfl, hx, hy, hp, Z⟩ := h
    cases d with
    | none => exact hp.elim
    | dict kvs => exact hp.elim
    | bool b =>
      cases dp_bl hx
      cases dp_bl hy
      have tb : TyX K H (.bl b) (.type "bool") := .base (.bl b)
      refine ⟨_, rfl, _, _, _, _, false, rfl, .ty _, tb, kit_ty (by decide +kernel), _, rfl, _, rfl, _, _, _, _, false, rfl, .ty _, tb, kit_ty (by decide +kernel), _, rfl, ?_⟩
      refine ⟨_, rfl, _, _, _, _, true, rfl, .ty _, tb, kit_ty (by decide +kernel), _, rfl, iteT ?_⟩
      refine ⟨_, rfl, _, _, _, _, true, rfl, .ty _, tb, kit_ty (by decide +kernel), _, rfl, _, rfl, _, rfl, rfl, ?_⟩
      rw [decide_eq_true (rfl : V.bl b = V.bl b)]
      exact Z
    | int i =>
      cases dp_int hx
      cases dp_int hy
      have tb : TyX K H (.int i) (.type "int") := .base (.int i)
      refine ⟨_, rfl, _, _, _, _, false, rfl, .ty _, tb, kit_ty (by decide +kernel), _, rfl, _, rfl, _, _, _, _, false, rfl, .ty _, tb, kit_ty (by decide +kernel), _, rfl, ?_⟩
      refine ⟨_, rfl, _, _, _, _, false, rfl, .ty _, tb, kit_ty (by decide +kernel), _, rfl, iteF ?_⟩
      refine ⟨_, rfl, _, _, _, _, true, rfl, .ty _, tb, kit_ty (by decide +kernel), _, rfl, iteT ?_⟩
      refine ⟨_, rfl, i, rfl, true, rfl, _, rfl, _, rfl, rfl, ?_⟩
      rw [decide_eq_true (rfl : V.int i = V.int i)]
      exact Z
    | str z =>
      cases dp_str hx
      cases dp_str hy
      have tb : TyX K H (.str z) (.type "str") := .base (.str z)
      refine ⟨_, rfl, _, _, _, _, false, rfl, .ty _, tb, kit_ty (by decide +kernel), _, rfl, _, rfl, _, _, _, _, false, rfl, .ty _, tb, kit_ty (by decide +kernel), _, rfl, ?_⟩
      refine ⟨_, rfl, _, _, _, _, false, rfl, .ty _, tb, kit_ty (by decide +kernel), _, rfl, iteF ?_⟩
      refine ⟨_, rfl, _, _, _, _, false, rfl, .ty _, tb, kit_ty (by decide +kernel), _, rfl, iteF ?_⟩
      refine ⟨_, rfl, _, _, _, _, true, rfl, .ty _, tb, kit_ty (by decide +kernel), _, rfl, _, rfl, _, rfl, rfl, ?_⟩
      rw [decide_eq_true (rfl : V.str z = V.str z)]
      exact Z
    | list ds =>
      obtain ⟨a, xs, rfl, sA, hxs⟩ := dp_lst hx
      obtain ⟨b, ys, rfl, sB, hys⟩ := dp_lst hy
      have ta : TyX K H (.ref a) (.type "list") := tyL sA
      have tb : TyX K H (.ref b) (.type "list") := tyL sB
      have lx := dpa_len hxs
      have ly := dpa_len hys
      refine ⟨_, rfl, _, _, _, _, true, rfl, .ty _, tb, kit_ty (by decide +kernel), _, rfl, ?_⟩
      refine ⟨_, rfl, _, _, _, _, true, rfl, .ty _, ta, kit_ty (by decide +kernel), _, rfl, _, _, _, _, true, rfl, .ty _, tb, kit_ty (by decide +kernel), rfl, _, rfl, _, rfl, _, _, _, _, false, rfl, .ty _, ta, kit_ty (by decide +kernel), _, rfl, _, _, _, _, false, rfl, .ty _, tb, kit_ty (by decide +kernel), rfl, _, rfl, ?_⟩
      refine ⟨_, rfl, a, _, rfl, .inl sA, _, rfl, b, _, rfl, .inl sB, rfl, _, rfl, iteNS (by rw [lx, ly]) ?_⟩
      refine ⟨_, rfl, b, _, rfl, .inl sB, ?_⟩
      refine ⟨_, rfl, by have := hp.1; omega, by have := hp.1; omega, ?_⟩
      refine for_range (lo := 0) (n := ys.length) (fun i σ H2 => H2 = H ∧ ∃ y2 : Option V, σ = [some (.ref a), some (.ref b), y2]) ⟨rfl, _, rfl⟩ ?_ ?_
      · rintro i σ H2 hi ⟨rfl, y2, rfl⟩
        have ed : ds[i]? = some (ds[i]'(by omega)) := List.getElem?_eq_getElem _
        obtain ⟨x, ex, dx⟩ := dpa_get hxs ed
        obtain ⟨y, ey, dy⟩ := dpa_get hys ed
        have hxk : atI xs (0 + (i : Int)) = some x := by rw [Int.zero_add]; exact atI_nat ex
        have hyk : atI ys (0 + (i : Int)) = some y := by rw [Int.zero_add]; exact atI_nat ey
        exact ⟨_, rfl, _, rfl, .inl ⟨_, _, _, _, rfl, rfl, sA, hxk, _, rfl, _, rfl, .inl ⟨_, _, _, _, rfl, rfl, sB, hyk, x, y, _, rfl, dx, dy, hp.2 _ (List.mem_of_getElem? ed), true, rfl, iteF ⟨rfl, _, rfl⟩⟩⟩⟩
      · rintro σ H2 ⟨rfl, y2, rfl⟩
        exact Z
    | tuple ds =>
      obtain ⟨a, xs, rfl, sA, hxs⟩ := dp_tup hx
      obtain ⟨b, ys, rfl, sB, hys⟩ := dp_tup hy
      have ta : TyX K H (.ref a) (.type "tuple") := tyT sA
      have tb : TyX K H (.ref b) (.type "tuple") := tyT sB
      have lx := dpa_len hxs
      have ly := dpa_len hys
      refine ⟨_, rfl, _, _, _, _, false, rfl, .ty _, tb, kit_ty (by decide +kernel), _, rfl, _, rfl, _, _, _, _, true, rfl, .ty _, tb, kit_ty (by decide +kernel), _, rfl, ?_⟩
      refine ⟨_, rfl, _, _, _, _, false, rfl, .ty _, ta, kit_ty (by decide +kernel), _, rfl, _, _, _, _, false, rfl, .ty _, tb, kit_ty (by decide +kernel), rfl, _, rfl, _, rfl, _, _, _, _, true, rfl, .ty _, ta, kit_ty (by decide +kernel), _, rfl, _, _, _, _, true, rfl, .ty _, tb, kit_ty (by decide +kernel), rfl, _, rfl, ?_⟩
      refine ⟨_, rfl, a, _, rfl, .inr sA, _, rfl, b, _, rfl, .inr sB, rfl, _, rfl, iteNS (by rw [lx, ly]) ?_⟩
      refine ⟨_, rfl, b, _, rfl, .inr sB, ?_⟩
      refine ⟨_, rfl, by have := hp.1; omega, by have := hp.1; omega, ?_⟩
      refine for_range (lo := 0) (n := ys.length) (fun i σ H2 => H2 = H ∧ ∃ y2 : Option V, σ = [some (.ref a), some (.ref b), y2]) ⟨rfl, _, rfl⟩ ?_ ?_
      · rintro i σ H2 hi ⟨rfl, y2, rfl⟩
        have ed : ds[i]? = some (ds[i]'(by omega)) := List.getElem?_eq_getElem _
        obtain ⟨x, ex, dx⟩ := dpa_get hxs ed
        obtain ⟨y, ey, dy⟩ := dpa_get hys ed
        have hxk : atI xs (0 + (i : Int)) = some x := by rw [Int.zero_add]; exact atI_nat ex
        have hyk : atI ys (0 + (i : Int)) = some y := by rw [Int.zero_add]; exact atI_nat ey
        exact ⟨_, rfl, _, rfl, .inr ⟨_, _, _, _, rfl, rfl, sA, hxk, _, rfl, _, rfl, .inr ⟨_, _, _, _, rfl, rfl, sB, hyk, x, y, _, rfl, dx, dy, hp.2 _ (List.mem_of_getElem? ed), true, rfl, iteF ⟨rfl, _, rfl⟩⟩⟩⟩
      · rintro σ H2 ⟨rfl, y2, rfl⟩
        exact Z
theorem ok__law_unchanged {f : Addr} {fd : FuncData} (F : Fun K "_law_unchanged" "_law_unchanged" s__law_unchanged f fd) (D__law_same : Dn P w K mg base CX0 7 "_law_same" (sp__law_same 6 K)) : FnOk P w K mg base CX0 8 f fd ["_law_data_here", "_law_goods", "_law_buys", "_law_links"] (sp__law_unchanged K) := by
  refine F.ok sc__law_unchanged (fun vs H Q E h => ?_) (fun cdv A outer s H vs Q E hr h => ?_)
  · obtain ⟨a, vb, vl, g, bs, ls, rfl, _⟩ := h
    rfl
  · refine ⟨_, (pss_cons (ps_if (PW.pt (pw_or (pt_not (pt_val (pe_d D__law_same hr (by decide) (by rfl) pass0 (pa_cons (pe_fld (pv 0) rfl) (pa_cons (pv 1) pa_nil))))) (pw_or1 (pt_not (pt_val (pe_d D__law_same hr (by decide) (by rfl) pass0 (pa_cons (pe_fld (pv 0) rfl) (pa_cons (pv 3) pa_nil))))))))
      (pss_one (ps_ret pe_bl))
      pss_nil)
      (pss_one (ps_ret (pe_d D__law_same hr (by decide) (by rfl) pass0 (pa_cons (pe_fld (pv 0) rfl) (pa_cons (pv 2) pa_nil)))))), ?_⟩
    obtain ⟨a, vb, vl, g, bs, ls, rfl, hD, hB, hL, hg, hb, hl, ok, Z⟩ := h
    obtain ⟨⟨C, dx, fs, h1, cl, na, lk⟩, v, w, ⟨C2, dx2, fs2, h2, cl2, na2, lk2⟩, hv, ⟨C3, dx3, fs3, h3, cl3, na3, lk3⟩, hw⟩ := hD
    refine ⟨_, rfl, a, C, dx, fs, _, rfl, h1, cl, na, lk, _, rfl, _, _, _, rfl, .int _, .int _, trivial, true, rfl, ?_⟩
    refine ⟨_, rfl, a, C3, dx3, fs3, _, rfl, h3, cl3, na3, lk3, _, rfl, _, _, _, rfl, hw, hL, (plain_ls hl).mono (by decide), true, rfl, ?_⟩
    exact ⟨_, rfl, a, C2, dx2, fs2, _, rfl, h2, cl2, na2, lk2, _, rfl, _, _, _, rfl, hv, hB, (plain_bs hg hb ok).mono (by decide), Z⟩
theorem ok__law_drawn {f : Addr} {fd : FuncData} (F : Fun K "_law_drawn" "_law_drawn" s__law_drawn f fd) (D__law_long : Dn P w K mg base CX0 1 "_law_long" (sp__law_long K)) (D__law_lowest : Dn P w K mg base CX0 2 "_law_lowest" (sp__law_lowest K)) (m_max : mg "max" = none) (m_int : mg "int" = none) : FnOk P w K mg base CX0 3 f fd ["_law_row_here"] (sp__law_drawn K) := by
  refine F.ok sc__law_drawn (fun vs H Q E h => ?_) (fun cdv A outer s H vs Q E hr h => ?_)
  · obtain ⟨a, row, rfl, _⟩ := h
    rfl
  · refine ⟨_, (pss_cons (ps_set (i := 1) sc__law_drawn.nd rfl (Or.inl rfl) (pe_d D__law_long hr (by decide) (by rfl) pass0 (pa_cons (pv 0) (pa_cons pe_int (pa_cons (pe_op op_add pe_int (pe_op op_mod (pe_callTy call_int1 (by rfl) m_int (by decide +kernel) (pa_cons (pe_ix ix_list (pv 0) pe_int (fun _ _ => rfl)) pa_nil)) pe_int)) pa_nil)))))
      (pss_cons (ps_set (i := 2) sc__law_drawn.nd rfl (Or.inl rfl) (pe_callB (call_max2 rfl) (by rfl) m_max (by decide +kernel) (pa_cons pe_int (pa_cons (pe_d D__law_long hr (by decide) (by rfl) pass0 (pa_cons (pv 0) (pa_cons pe_int (pa_cons (pe_op op_add pe_int (pe_op op_mod (pe_callTy call_int1 (by rfl) m_int (by decide +kernel) (pa_cons (pe_ix ix_list (pv 0) pe_int (fun _ _ => rfl)) pa_nil)) pe_int)) pa_nil)))) pa_nil))))
      (C8.pss_cut (ps_if (pt_cmpR op_lt (pe_op op_mod (pe_callTy call_int1 (by rfl) m_int (by decide +kernel) (pa_cons (pe_op op_fdiv (pe_ix ix_list (pv 0) pe_int (fun _ _ => rfl)) pe_int) pa_nil)) pe_int) pe_int (nomark _))
      (pss_cons (ps_set (i := 1) sc__law_drawn.nd rfl (Or.inl rfl) (pe_op op_mod (pe_callTy call_int1 (by rfl) m_int (by decide +kernel) (pa_cons (pv 1) pa_nil)) pe_int))
      (pss_one (ps_set (i := 2) sc__law_drawn.nd rfl (Or.inl rfl) (pe_op op_add pe_int (pe_op op_mod (pe_callTy call_int1 (by rfl) m_int (by decide +kernel) (pa_cons (pv 2) pa_nil)) pe_int)))))
      pss_nil)
      (C8.pss_cut (ps_if (pt_cmpR op_eq (pe_op op_mod (pe_callTy call_int1 (by rfl) m_int (by decide +kernel) (pa_cons (pe_op op_fdiv (pe_ix ix_list (pv 0) pe_int (fun _ _ => rfl)) pe_int) pa_nil)) pe_int) pe_int (nomark _))
      (pss_one (ps_set (i := 1) sc__law_drawn.nd rfl (Or.inl rfl) (pe_un un_neg (pv 1))))
      pss_nil)
      (pss_one (ps_ret (pe_d D__law_lowest hr (by decide) (by rfl) pass0 (pa_cons (pv 1) (pa_cons (pv 2) pa_nil))))))))), ?_⟩
    obtain ⟨a, row, rfl, hS, hrow, Z⟩ := h
    obtain ⟨v0, a0, b0, c0⟩ := hrow.at 0 (by decide)
    obtain ⟨v1, a1, b1, c1⟩ := hrow.at 1 (by decide)
    refine ⟨_, rfl, _, rfl, _, _, _, _, rfl, rfl, hS, a0, .inl ⟨_, rfl, _, _, rfl, rfl, by show (0 : Int) < 10; decide, _, _, rfl, rfl, ?_⟩⟩
    refine ⟨_, _, _, _, 24, 10, rfl, hS, hrow, by omega, by omega, by omega, by omega, by omega, fun x x0 x1 _ => ?_⟩
    refine ⟨_, rfl, _, rfl, _, _, _, _, rfl, rfl, hS, a1, .inl ⟨_, rfl, _, _, rfl, rfl, by show (0 : Int) < 10; decide, _, _, rfl, rfl, ?_⟩⟩
    refine ⟨_, _, _, _, 24, 10, rfl, hS, hrow, by omega, by omega, by omega, by omega, by omega, fun y y0 y1 _ => ?_⟩
    refine ⟨_, _, rfl, ?_⟩
    obtain ⟨y, hy, rfl⟩ : ∃ y' : Int, (0 < y' ∧ y'.natAbs < 2 ^ 100) ∧ y' = (if y > 1 then y else 1) := ⟨_, by split <;> omega, rfl⟩
    refine ⟨fun σ H1 => H1 = H ∧ ∃ p q : Int, σ = [some (.ref a), some (.int p), some (.int q)] ∧ p.natAbs < 2 ^ 100 ∧ 0 < q ∧ q.natAbs < 2 ^ 100, ?_, ?_⟩
    · refine ⟨_, rfl, _, _, _, _, rfl, rfl, hS, a0, _, _, rfl, rfl, ⟨by decide, by decide⟩, .inl ⟨_, rfl, _, _, rfl, rfl, by show (0 : Int) < 4; decide, _, _, rfl, rfl, _, rfl, ite2 (fun e => ?_) (fun e => ?_)⟩⟩
      · refine ⟨_, rfl, .inl ⟨_, rfl, _, _, rfl, rfl, by show (0 : Int) < 13; decide, ?_⟩⟩
        refine ⟨_, rfl, .inl ⟨_, rfl, _, _, rfl, rfl, by show (0 : Int) < 9; decide, _, _, rfl, rfl, rfl, _, _, rfl, by omega, by omega, by omega⟩⟩
      · exact ⟨rfl, _, _, rfl, x1, hy.1, hy.2⟩
    · rintro σ H1 ⟨rfl, p, q, rfl, hp, hq, hq2⟩
      refine ⟨fun σ H2 => H2 = H1 ∧ ∃ p q : Int, σ = [some (.ref a), some (.int p), some (.int q)] ∧ p.natAbs < 2 ^ 100 ∧ 0 < q ∧ q.natAbs < 2 ^ 100, ?_, ?_⟩
      · refine ⟨_, rfl, _, _, _, _, rfl, rfl, hS, a1, _, _, rfl, rfl, ⟨by decide, by decide⟩, .inl ⟨_, rfl, _, _, rfl, rfl, by show (0 : Int) < 2; decide, rfl, _, rfl, ite2 (fun e => ?_) (fun e => ?_)⟩⟩
        · exact ⟨_, rfl, _, rfl, rfl, _, _, rfl, by omega, hq, hq2⟩
        · exact ⟨rfl, _, _, rfl, hp, hq, hq2⟩
      · rintro σ H2 ⟨rfl, p, q, rfl, hp, hq, hq2⟩
        refine ⟨_, rfl, _, rfl, _, _, rfl, hq, Nat.lt_of_lt_of_le hq2 (Nat.pow_le_pow_right (by decide) (by decide)), ?_⟩
        exact Z _ (divInt_sz (Int.ne_of_gt hq) hp hq2)
theorem ok_ratio {f : Addr} {fd : FuncData} (F : Fun K "ratio" "ratio" s_ratio f fd) (m_gcd : mg "gcd" = some (.builtin "math.gcd")) : FnOk P w K mg base CX0 1 f fd ["p", "q"] (sp_ratio K) := by
  refine F.ok sc_ratio (fun vs H Q E h => ?_) (fun cdv A outer s H vs Q E hr h => ?_)
  · obtain ⟨p, q, rfl, _⟩ := h
    rfl
  · refine ⟨_, (pss_cons (ps_set (i := 2) sc_ratio.nd rfl (Or.inl rfl) (pe_callBfun cr_gcd (by rfl) m_gcd (pa_cons (pv 0) (pa_cons (pv 1) pa_nil))))
      (C8.pss_cut (ps_if (pt_cmpR op_lt (pv 1) pe_int (nomark _))
      (pss_one (ps_set (i := 2) sc_ratio.nd rfl (Or.inl rfl) (pe_un un_neg (pv 2))))
      pss_nil)
      (pss_one (ps_ret (pe_tup (pa_cons (pe_op op_fdivG (pv 0) (pv 2)) (pa_cons (pe_op op_fdivG (pv 1) (pv 2)) pa_nil))))))), ?_⟩
    obtain ⟨p, q, rfl, hq, hs, Z⟩ := h
    refine ⟨_, rfl, _, rfl, p, q, rfl, ?_⟩
    refine ⟨fun σ H1 => H1 = H ∧ σ = [some (.int p), some (.int q), some (.int (if q < 0 then -((Nat.gcd p.natAbs q.natAbs : Nat) : Int) else ((Nat.gcd p.natAbs q.natAbs : Nat) : Int)))], ?_, fun σ' H' M => ?_⟩
    · refine ⟨_, rfl, _, _, rfl, rfl, _, rfl, ite2 (fun e => ?_) (fun e => ?_)⟩
      · have e' : q < 0 := of_decide_eq_true e
        refine ⟨_, rfl, _, rfl, ?_⟩
        rw [if_pos e']
        exact ⟨rfl, rfl⟩
      · have e' : ¬ q < 0 := fun z => e (decide_eq_true z)
        rw [if_neg e']
        exact ⟨rfl, rfl⟩
    · obtain ⟨rfl, rfl⟩ := M
      have c := ratio_common (p := p) hq
      refine ⟨_, rfl, _, rfl, _, _, rfl, rfl, ⟨c.1, Nat.lt_of_le_of_lt c.2 hs⟩, _, rfl, _, rfl, _, _, rfl, rfl, ⟨c.1, Nat.lt_of_le_of_lt c.2 hs⟩, by show 2 ≤ sizeLine; decide, fun a ha => ?_⟩
      refine Z _ a (same_upd ha) ha (SqT.of ?_)
      rw [upd_same, ← ratio_num hq, ← ratio_den hq]
theorem ok_sub {f : Addr} {fd : FuncData} (F : Fun K "sub" "sub" s_sub f fd) (D_ratio : Dn P w K mg base CX0 1 "ratio" (sp_ratio K)) : FnOk P w K mg base CX0 2 f fd ["a", "b"] (sp_sub K) := by
  refine F.ok sc_sub (fun vs H Q E h => ?_) (fun cdv A outer s H vs Q E hr h => ?_)
  · obtain ⟨a, b, r, s, rfl, _⟩ := h
    rfl
  · refine ⟨_, (pss_one (ps_ret (pe_d D_ratio hr (by decide) (by rfl) pass0 (pa_cons (pe_op op_sub (pe_op op_mulG (pe_ix ix_tup (pv 0) pe_int (fun _ _ => rfl)) (pe_ix ix_tup (pv 1) pe_int (fun _ _ => rfl))) (pe_op op_mulG (pe_ix ix_tup (pv 1) pe_int (fun _ _ => rfl)) (pe_ix ix_tup (pv 0) pe_int (fun _ _ => rfl)))) (pa_cons (pe_op op_mulG (pe_ix ix_tup (pv 0) pe_int (fun _ _ => rfl)) (pe_ix ix_tup (pv 1) pe_int (fun _ _ => rfl))) pa_nil))))), ?_⟩
    obtain ⟨a, b, r, s, rfl, ha, hb, sr, ss, Z⟩ := h
    obtain ⟨h1, h2, h3⟩ := cross_lt sr ss
    refine ⟨_, rfl, _, _, _, _, rfl, rfl, ha, rfl, _, rfl, _, _, _, _, rfl, rfl, hb, rfl, _, _, rfl, rfl, mulG_b sr.1 ss.den (by decide), ?_⟩
    refine ⟨_, rfl, _, _, _, _, rfl, rfl, hb, rfl, _, rfl, _, _, _, _, rfl, rfl, ha, rfl, _, _, rfl, rfl, mulG_b ss.1 sr.den (by decide), _, _, rfl, rfl, ?_⟩
    refine ⟨_, rfl, _, _, _, _, rfl, rfl, ha, rfl, _, rfl, _, _, _, _, rfl, rfl, hb, rfl, _, _, rfl, rfl, mulG_b sr.den ss.den (by decide), ?_⟩
    refine ⟨_, _, rfl, Int.ne_of_gt (den_mul_pos r s), Nat.lt_of_lt_of_le h3 (Nat.pow_le_pow_right (by decide) (by decide)), ?_⟩
    rw [rat_sub]
    exact Z
theorem ok_add {f : Addr} {fd : FuncData} (F : Fun K "add" "add" s_add f fd) (D_ratio : Dn P w K mg base CX0 1 "ratio" (sp_ratio K)) : FnOk P w K mg base CX0 2 f fd ["a", "b"] (sp_add K) := by
  refine F.ok sc_add (fun vs H Q E h => ?_) (fun cdv A outer s H vs Q E hr h => ?_)
  · obtain ⟨a, b, r, s, rfl, _⟩ := h
    rfl
  · refine ⟨_, (pss_one (ps_ret (pe_d D_ratio hr (by decide) (by rfl) pass0 (pa_cons (pe_op op_add (pe_op op_mulG (pe_ix ix_tup (pv 0) pe_int (fun _ _ => rfl)) (pe_ix ix_tup (pv 1) pe_int (fun _ _ => rfl))) (pe_op op_mulG (pe_ix ix_tup (pv 1) pe_int (fun _ _ => rfl)) (pe_ix ix_tup (pv 0) pe_int (fun _ _ => rfl)))) (pa_cons (pe_op op_mulG (pe_ix ix_tup (pv 0) pe_int (fun _ _ => rfl)) (pe_ix ix_tup (pv 1) pe_int (fun _ _ => rfl))) pa_nil))))), ?_⟩
    obtain ⟨a, b, r, s, rfl, ha, hb, sr, ss, Z⟩ := h
    obtain ⟨h1, h2, h3⟩ := cross_lt sr ss
    refine ⟨_, rfl, _, _, _, _, rfl, rfl, ha, rfl, _, rfl, _, _, _, _, rfl, rfl, hb, rfl, _, _, rfl, rfl, mulG_b sr.1 ss.den (by decide), ?_⟩
    refine ⟨_, rfl, _, _, _, _, rfl, rfl, hb, rfl, _, rfl, _, _, _, _, rfl, rfl, ha, rfl, _, _, rfl, rfl, mulG_b ss.1 sr.den (by decide), _, _, rfl, rfl, ?_⟩
    refine ⟨_, rfl, _, _, _, _, rfl, rfl, ha, rfl, _, rfl, _, _, _, _, rfl, rfl, hb, rfl, _, _, rfl, rfl, mulG_b sr.den ss.den (by decide), ?_⟩
    refine ⟨_, _, rfl, Int.ne_of_gt (den_mul_pos r s), Nat.lt_of_lt_of_le h3 (Nat.pow_le_pow_right (by decide) (by decide)), ?_⟩
    rw [rat_add]
    exact Z
theorem ok_mul {f : Addr} {fd : FuncData} (F : Fun K "mul" "mul" s_mul f fd) (D_ratio : Dn P w K mg base CX0 1 "ratio" (sp_ratio K)) : FnOk P w K mg base CX0 2 f fd ["a", "b"] (sp_mul K) := by
  refine F.ok sc_mul (fun vs H Q E h => ?_) (fun cdv A outer s H vs Q E hr h => ?_)
  · obtain ⟨a, b, r, s, rfl, _⟩ := h
    rfl
  · refine ⟨_, (pss_one (ps_ret (pe_d D_ratio hr (by decide) (by rfl) pass0 (pa_cons (pe_op op_mulG (pe_ix ix_tup (pv 0) pe_int (fun _ _ => rfl)) (pe_ix ix_tup (pv 1) pe_int (fun _ _ => rfl))) (pa_cons (pe_op op_mulG (pe_ix ix_tup (pv 0) pe_int (fun _ _ => rfl)) (pe_ix ix_tup (pv 1) pe_int (fun _ _ => rfl))) pa_nil))))), ?_⟩
    obtain ⟨a, b, r, s, rfl, ha, hb, sr, ss, Z⟩ := h
    obtain ⟨h1, h2, h3⟩ := cross_lt sr ss
    refine ⟨_, rfl, _, _, _, _, rfl, rfl, ha, rfl, _, rfl, _, _, _, _, rfl, rfl, hb, rfl, _, _, rfl, rfl, mulG_b sr.1 ss.1 (by decide), ?_⟩
    refine ⟨_, rfl, _, _, _, _, rfl, rfl, ha, rfl, _, rfl, _, _, _, _, rfl, rfl, hb, rfl, _, _, rfl, rfl, mulG_b sr.den ss.den (by decide), ?_⟩
    refine ⟨_, _, rfl, Int.ne_of_gt (den_mul_pos r s), Nat.lt_of_lt_of_le h3 (Nat.pow_le_pow_right (by decide) (by decide)), ?_⟩
    rw [rat_mul]
    exact Z
theorem ok_dot {f : Addr} {fd : FuncData} (F : Fun K "dot" "dot" s_dot f fd) (D_add : Dn P w K mg base CX0 2 "add" (sp_add K)) (D_mul : Dn P w K mg base CX0 2 "mul" (sp_mul K)) (m_zip : mg "zip" = none) : FnOk P w K mg base CX0 3 f fd ["a", "b"] (sp_dot K) := by
  refine F.ok sc_dot (fun vs H Q E h => ?_) (fun cdv A outer s H vs Q E hr h => ?_)
  · obtain ⟨a, b, rs, ss, B, rfl, _⟩ := h
    rfl
  · refine ⟨_, (pss_cons (ps_set (i := 2) sc_dot.nd rfl (Or.inl rfl) (pe_tup (pa_cons pe_int (pa_cons pe_int pa_nil))))
      (pss_cons (ps_for PassesOwn.never rfl (pi_zip (by rfl) m_zip (pa_cons (pv 0) (pa_cons (pv 1) pa_nil))) (pg_tup rfl (pgs_cons (pg_name (i := 3) sc_dot.nd rfl (Or.inl rfl)) (pgs_cons (pg_name (i := 4) sc_dot.nd rfl (Or.inl rfl)) pgs_nil)))
      (pss_one (ps_set (i := 2) sc_dot.nd rfl (Or.inl rfl) (pe_d D_add hr (by decide) (by rfl) pass0 (pa_cons (pv 2) (pa_cons (pe_d D_mul hr (by decide) (by rfl) pass0 (pa_cons (pv 3) (pa_cons (pv 4) pa_nil))) pa_nil))))))
      (pss_one (ps_ret (pv 2))))), ?_⟩
    obtain ⟨a, b, rs, ss, B, rfl, hA, hB, hl, zr, zs, hz, Z⟩ := h
    obtain ⟨as, sA, fA⟩ := hA
    obtain ⟨bs, sB, fB⟩ := hB
    refine ⟨by show 2 ≤ sizeLine; decide, fun t0 n0 => ?_⟩
    have s0 : Same H (upd H t0 (.tup [.int 0, .int 1])) := same_upd n0
    refine ⟨_, rfl, _, rfl, a, b, as.map V.ref, bs.map V.ref, rfl, s0.seq sA, s0.seq sB, ?_⟩
    refine RZ.for_zipL (by rw [List.length_map, List.length_map, fA.1, fB.1, hl]) (fun i σ H2 => Same H H2 ∧ ∃ (t : Addr) (y3 y4 : Option V), H t = none ∧ σ = [some (.ref a), some (.ref b), some (.ref t), y3, y4] ∧ IsF K H2 t (dotR (rs.take i) (ss.take i)) ∧ Sz (1 + i * (2 * B + 1)) (dotR (rs.take i) (ss.take i))) ⟨s0, t0, _, _, n0, rfl, ?_, ?_⟩ (fun i σ H2 hP => ⟨hP.1.seq sA, hP.1.seq sB⟩) ?_ ?_
    · rw [List.take_zero, List.take_zero]
      exact SqT.of upd_same
    · rw [List.take_zero, List.take_zero]
      exact sz_zero.mono (by omega)
    · rintro i x y T σ H2 hx hy ⟨s2, t, y3, y4, nt, rfl, ht, zt⟩ nT
      obtain ⟨p, r, rfl, _, er, hp, hi⟩ := (fA.same s2).of hx
      obtain ⟨q, s, rfl, _, es, hq, hi2⟩ := (fB.same s2).of hy
      have sr := zr r (List.mem_of_getElem? er)
      have ss' := zs s (List.mem_of_getElem? es)
      have hmul : (i + 1) * (2 * B + 1) ≤ rs.length * (2 * B + 1) := Nat.mul_le_mul_right _ hi
      have hi0 : (i + 1) * (2 * B + 1) = i * (2 * B + 1) + (2 * B + 1) := Nat.succ_mul _ _
      have sT : Same H2 (upd H2 T (.tup [.ref p, .ref q])) := same_upd nT
      refine ⟨T, [.ref p, .ref q], rfl, SqT.of upd_same, rfl, .ref p, [.ref q], rfl, .ref q, [], rfl, rfl, ?_⟩
      refine ⟨_, rfl, _, rfl, _, rfl, _, _, r, s, rfl, hp.same sT, hq.same sT, sr.mono (by omega), ss'.mono (by omega), fun H3 m s3 nm hm => ?_⟩
      have szm : Sz (2 * B) (r * s) := (sr.mul ss').mono (by omega)
      refine ⟨_, _, _, _, rfl, (ht.same sT).same s3, hm, zt.mono (by omega), szm.mono (by omega), fun H4 u s4 nu hu => ?_⟩
      have sAll := s2.trans (sT.trans (s3.trans s4))
      refine ⟨sAll, u, _, _, (s2.trans (sT.trans s3)).free nu, rfl, ?_, ?_⟩
      · rw [dotR_take rs ss i r s er es]
        exact hu
      · rw [dotR_take rs ss i r s er es]
        exact (zt.add szm).mono (by omega)
    · rintro σ H2 ⟨s2, t, y3, y4, nt, rfl, ht, zt⟩
      refine ⟨_, rfl, Z _ _ s2 nt ?_⟩
      rw [List.length_map, fA.1] at ht
      rw [List.take_of_length_le (Nat.le_refl _), List.take_of_length_le (by omega)] at ht
      exact ht
theorem ok_cost {f : Addr} {fd : FuncData} (F : Fun K "cost" "cost" s_cost f fd) (D_dot : Dn P w K mg base CX0 3 "dot" (sp_dot K)) : FnOk P w K mg base CX0 4 f fd ["prices", "amounts"] (sp_cost K) := by
  refine F.ok sc_cost (fun vs H Q E h => ?_) (fun cdv A outer s H vs Q E hr h => ?_)
  · obtain ⟨a, b, rs, ss, B, rfl, _⟩ := h
    rfl
  · refine ⟨_, (pss_one (ps_ret (pe_d D_dot hr (by decide) (by rfl) pass0 (pa_cons (pv 0) (pa_cons (pv 1) pa_nil))))), ?_⟩
    obtain ⟨a, b, rs, ss, B, rfl, h⟩ := h
    exact ⟨_, rfl, _, rfl, a, b, rs, ss, B, rfl, h⟩
theorem ok_spent {f : Addr} {fd : FuncData} (F : Fun K "spent" "spent" s_spent f fd) (D_cost : Dn P w K mg base CX0 4 "cost" (sp_cost K)) : FnOk P w K mg base CX0 5 f fd ["data", "i"] (sp_spent K) := by
  refine F.ok sc_spent (fun vs H Q E h => ?_) (fun cdv A outer s H vs Q E hr h => ?_)
  · obtain ⟨a, g, bs, ls, i, b, rfl, _⟩ := h
    rfl
  · refine ⟨_, (pss_cons (ps_asg (pe_ix ix_list (pe_fld (pv 0) rfl) (pv 1) (fun _ _ => rfl)) (pg_tup rfl (pgs_cons (pg_name (i := 2) sc_spent.nd rfl (Or.inl rfl)) (pgs_cons (pg_name (i := 3) sc_spent.nd rfl (Or.inl rfl)) pgs_nil))))
      (pss_one (ps_ret (pe_d D_cost hr (by decide) (by rfl) pass0 (pa_cons (pv 2) (pa_cons (pv 3) pa_nil)))))), ?_⟩
    obtain ⟨a, g, bs, ls, i, b, rfl, hD, eb, ob, g8, Z⟩ := h
    obtain ⟨_, v, w, ⟨C, dx, fs, h1, cl, na, lk⟩, hv, _⟩ := hD
    obtain ⟨c, xs, t, p, q, rfl, sA, ax, ht, hp, hq⟩ := buys_get hv eb
    have l1 := ob.l1
    have l2 := ob.l2
    refine ⟨_, rfl, a, C, dx, fs, _, rfl, h1, cl, na, lk, _, rfl, _, _, _, _, rfl, rfl, sA, ax, ?_⟩
    refine ⟨t, _, rfl, ht, rfl, _, _, rfl, _, _, rfl, rfl, ?_⟩
    exact ⟨_, rfl, _, rfl, p, q, b.1, b.2, 80, rfl, hp, hq, by omega, (fun r hr => (ob.p r hr).2.mono (by decide)), (fun r hr => (ob.a r hr).2), by omega, Z⟩
theorem ok_plane {f : Addr} {fd : FuncData} (F : Fun K "plane" "plane" s_plane f fd) (D_sub : Dn P w K mg base CX0 2 "sub" (sp_sub K)) (D_add : Dn P w K mg base CX0 2 "add" (sp_add K)) (D_cost : Dn P w K mg base CX0 4 "cost" (sp_cost K)) (D_spent : Dn P w K mg base CX0 5 "spent" (sp_spent K)) (D_mul : Dn P w K mg base CX0 2 "mul" (sp_mul K)) : FnOk P w K mg base CX0 6 f fd ["data", "taste", "i", "basket"] (sp_plane K) := by
  refine F.ok sc_plane (fun vs H Q E h => ?_) (fun cdv A outer s H vs Q E hr h => ?_)
  · obtain ⟨a, t, pn, pw, c, g, i, bs, ls, b, ns, ws, ss, n, w, rfl, _⟩ := h
    rfl
  · refine ⟨_, (pss_cons (ps_asg (pv 1) (pg_tup rfl (pgs_cons (pg_name (i := 4) sc_plane.nd rfl (Or.inl rfl)) (pgs_cons (pg_name (i := 5) sc_plane.nd rfl (Or.inl rfl)) pgs_nil))))
      (pss_cons (ps_set (i := 6) sc_plane.nd rfl (Or.inl rfl) (pe_d D_sub hr (by decide) (by rfl) pass0 (pa_cons (pe_d D_cost hr (by decide) (by rfl) pass0 (pa_cons (pe_ix ix_tup (pe_ix ix_list (pe_fld (pv 0) rfl) (pv 2) (fun _ _ => rfl)) pe_int (fun _ _ => rfl)) (pa_cons (pv 3) pa_nil))) (pa_cons (pe_d D_spent hr (by decide) (by rfl) pass0 (pa_cons (pv 0) (pa_cons (pv 2) pa_nil))) pa_nil))))
      (pss_one (ps_ret (pe_d D_add hr (by decide) (by rfl) pass0 (pa_cons (pe_ix ix_list (pv 4) (pv 2) (fun _ _ => rfl)) (pa_cons (pe_d D_mul hr (by decide) (by rfl) pass0 (pa_cons (pe_ix ix_list (pv 5) (pv 2) (fun _ _ => rfl)) (pa_cons (pv 6) pa_nil))) pa_nil))))))), ?_⟩
    obtain ⟨a, t, pn, pw, c, g, i, bs, ls, b, ns, ws, ss, n, w, rfl, hD, eb, ob, g4, ht, hpn, hpw, en, ew, zn, zw, hc, lc, zs, Z⟩ := h
    obtain ⟨_, v, _, ⟨C, dx, fs, h1, cl, na, lk⟩, hv, _⟩ := id hD
    obtain ⟨c2, xs, t2, p, q, rfl, sA, ax, ht2, hp, hq⟩ := buys_get hv eb
    have l1 := ob.l1
    refine ⟨_, rfl, t, _, rfl, ht, rfl, _, _, rfl, _, _, rfl, rfl, ?_⟩
    refine ⟨_, rfl, a, C, dx, fs, _, rfl, h1, cl, na, lk, _, rfl, _, _, _, _, rfl, rfl, sA, ax, _, _, _, _, rfl, rfl, ht2, rfl, _, rfl, ?_⟩
    refine ⟨p, c, b.1, ss, 80, rfl, hp, hc, by omega, (fun r hr => (ob.p r hr).2.mono (by decide)), zs, by omega, fun H1 m s1 nm hm => ?_⟩
    refine ⟨_, rfl, _, rfl, a, g, bs, ls, i, b, rfl, hD.same s1, eb, ob, by omega, fun H2 m2 s2 nm2 hm2 => ?_⟩
    have z1 : Sz 645 (dotR b.1 ss) := (dotR_sz (B := 80) (fun r hr => (ob.p r hr).2.mono (by decide)) zs).mono (by omega)
    have z2 : Sz 645 (dotR b.1 b.2) := (dotR_sz (B := 80) (fun r hr => (ob.p r hr).2.mono (by decide)) (fun r hr => (ob.a r hr).2)).mono (by omega)
    refine ⟨m, m2, _, _, rfl, hm.same s2, hm2, z1.mono (by decide), z2.mono (by decide), fun H3 u s3 nu hu => ?_⟩
    have s13 := s1.trans (s2.trans s3)
    obtain ⟨as, sPn, fPn⟩ := hpn.same s13
    obtain ⟨as2, sPw, fPw⟩ := hpw.same s13
    obtain ⟨x, x1, hx⟩ := fPn.at en
    obtain ⟨y, y1, hy⟩ := fPw.at ew
    have zg : Sz 1291 (gapR b ss) := z1.sub z2
    have x2 := atI_nat x1
    have y2 := atI_nat y1
    refine ⟨_, rfl, _, rfl, _, _, _, _, rfl, rfl, sPn, x2, _, rfl, _, rfl, _, _, _, _, rfl, rfl, sPw, y2, _, rfl, y, u, _, _, rfl, hy, hu, zw.mono (by decide), zg.mono (by decide), fun H4 e s4 ne he => ?_⟩
    exact ⟨x, e, _, _, rfl, hx.same s4, he, zn.mono (by decide), (zw.mul zg).mono (by decide), fun H5 r s5 nr hr => Z _ _ (s13.trans (s4.trans s5)) ((s13.trans s4).free nr) hr⟩
theorem ok_less {f : Addr} {fd : FuncData} (F : Fun K "less" "less" s_less f fd) : FnOk P w K mg base CX0 1 f fd ["a", "b"] (sp_less K) := by
  refine F.ok sc_less (fun vs H Q E h => ?_) (fun cdv A outer s H vs Q E hr h => ?_)
  · obtain ⟨a, b, r, s, rfl, _⟩ := h
    rfl
  · refine ⟨_, (pss_one (ps_ret (pe_cmpR op_lt (pe_op op_mulG (pe_ix ix_tup (pv 0) pe_int (fun _ _ => rfl)) (pe_ix ix_tup (pv 1) pe_int (fun _ _ => rfl))) (pe_op op_mulG (pe_ix ix_tup (pv 1) pe_int (fun _ _ => rfl)) (pe_ix ix_tup (pv 0) pe_int (fun _ _ => rfl))) (nomark _)))), ?_⟩
    obtain ⟨a, b, r, s, rfl, ha, hb, sr, ss, Z⟩ := h
    refine ⟨_, rfl, _, _, _, _, rfl, rfl, ha, rfl, _, rfl, _, _, _, _, rfl, rfl, hb, rfl, _, _, rfl, rfl, mulG_b sr.1 ss.den (by decide), ?_⟩
    refine ⟨_, rfl, _, _, _, _, rfl, rfl, hb, rfl, _, rfl, _, _, _, _, rfl, rfl, ha, rfl, _, _, rfl, rfl, mulG_b ss.1 sr.den (by decide), _, _, rfl, rfl, ?_⟩
    rw [show decide (r < s) = decide (r.num * (s.den : Int) < s.num * (r.den : Int)) from decide_eq_decide.mpr (Rat.lt_iff r s)] at Z
    exact Z
theorem ok_worth {f : Addr} {fd : FuncData} (F : Fun K "worth" "worth" s_worth f fd) (D_plane : Dn P w K mg base CX0 6 "plane" (sp_plane K)) (D_less : Dn P w K mg base CX0 1 "less" (sp_less K)) (m_range : mg "range" = none) (m_len : mg "len" = none) : FnOk P w K mg base CX0 7 f fd ["data", "taste", "basket"] (sp_worth K) := by
  refine F.ok sc_worth (fun vs H Q E h => ?_) (fun cdv A outer s H vs Q E hr h => ?_)
  · obtain ⟨a, t, pn, pw, c, g, bs, ls, ns, ws, ss, rfl, _⟩ := h
    rfl
  · refine ⟨_, (pss_cons (ps_set (i := 3) sc_worth.nd rfl (Or.inl rfl) (pe_d D_plane hr (by decide) (by rfl) pass0 (pa_cons (pv 0) (pa_cons (pv 1) (pa_cons pe_int (pa_cons (pv 2) pa_nil))))))
      (pss_cons (ps_for PassesOwn.never rfl (pi_range2 rfl m_range (pa_cons pe_int (pa_cons (pe_callB call_len_seq (by rfl) m_len (by decide +kernel) (pa_cons (pe_fld (pv 0) rfl) pa_nil)) pa_nil))) (pg_name (i := 4) sc_worth.nd rfl (Or.inl rfl))
      (pss_cons (ps_set (i := 5) sc_worth.nd rfl (Or.inl rfl) (pe_d D_plane hr (by decide) (by rfl) pass0 (pa_cons (pv 0) (pa_cons (pv 1) (pa_cons (pv 4) (pa_cons (pv 2) pa_nil))))))
      (pss_one (ps_if (pt_val (pe_d D_less hr (by decide) (by rfl) pass0 (pa_cons (pv 5) (pa_cons (pv 3) pa_nil))))
      (pss_one (ps_set (i := 3) sc_worth.nd rfl (Or.inl rfl) (pv 5)))
      pss_nil))))
      (pss_one (ps_ret (pv 3))))), ?_⟩
    obtain ⟨a, t, pn, pw, c, g, bs, ls, ns, ws, ss, rfl, hD, ok, g4, b0, b100, ht, hpn, hpw, ln, lw, zn, zw, hc, lc, zs, Z⟩ := h
    obtain ⟨_, v, _, ⟨C, dx, fs, h1, cl, na, lk⟩, hv, _⟩ := id hD
    obtain ⟨bA, xs, rfl, sA, hx⟩ := dp_lst hv
    have lx : xs.length = bs.length := by rw [dpa_len hx, List.length_map]
    have lp := planesR_len (ss := ss) ln lw
    have at_ : ∀ i, i < bs.length → ∃ b n w, bs[i]? = some b ∧ ns[i]? = some n ∧ ws[i]? = some w ∧ okBuy g b ∧ Sz 1000 n ∧ Sz 1000 w ∧ (planesR bs ns ws ss)[i]? = some (n + w * gapR b ss) ∧ Sz 3300 (n + w * gapR b ss) := fun i hi => by
      have e1 : bs[i]? = some bs[i] := List.getElem?_eq_getElem hi
      have e2 : ns[i]? = some (ns[i]'(by omega)) := List.getElem?_eq_getElem _
      have e3 : ws[i]? = some (ws[i]'(by omega)) := List.getElem?_eq_getElem _
      have o := ok _ (List.mem_of_getElem? e1)
      have l1 := o.l1
      have z1 : Sz 645 (dotR bs[i].1 ss) := (dotR_sz (B := 80) (fun r hr => (o.p r hr).2.mono (by decide)) zs).mono (by omega)
      have z2 : Sz 645 (dotR bs[i].1 bs[i].2) := (dotR_sz (B := 80) (fun r hr => (o.p r hr).2.mono (by decide)) (fun r hr => (o.a r hr).2)).mono (by omega)
      have zg : Sz 1291 (gapR bs[i] ss) := z1.sub z2
      have y1 := zn _ (List.mem_of_getElem? e2)
      have y2 := zw _ (List.mem_of_getElem? e3)
      exact ⟨_, _, _, e1, e2, e3, o, y1, y2, planesR_at e1 e2 e3, (y1.add (y2.mul zg)).mono (by decide)⟩
    obtain ⟨b, n, w, e1, e2, e3, o, y1, y2, ep, zp⟩ := at_ 0 b0
    refine ⟨_, rfl, _, rfl, _, rfl, a, t, pn, pw, c, g, 0, bs, ls, b, ns, ws, ss, n, w, rfl, hD, e1, o, g4, ht, hpn, hpw, e2, e3, y1, y2, hc, lc, zs, fun H1 m s1 nm hm => ?_⟩
    refine ⟨_, rfl, a, C, dx, fs, _, rfl, s1 _ _ h1, cl, na, lk, bA, _, rfl, .inl (s1.seq sA), ?_⟩
    rw [lx]
    refine ⟨_, _, rfl, ⟨by omega, by omega, by omega, by omega⟩, ?_⟩
    rw [show ((bs.length : Int) - 1).toNat = bs.length - 1 by omega]
    refine for_range (lo := 1) (n := bs.length - 1) (fun i σ H2 => Same H H2 ∧ ∃ (l : Addr) (y4 y5 : Option V), σ = [some (.ref a), some (.ref t), some (.ref c), some (.ref l), y4, y5] ∧ H l = none ∧ IsF K H2 l (leastR ((planesR bs ns ws ss).take (i + 1))) ∧ Sz 3300 (leastR ((planesR bs ns ws ss).take (i + 1)))) ⟨s1, m, _, _, rfl, nm, ?_, ?_⟩ ?_ ?_
    · rw [take_snoc ep]
      exact hm
    · rw [take_snoc ep]
      exact zp
    · rintro i σ H2 hi ⟨s2, l, y4, y5, rfl, nl, hl, zl⟩
      obtain ⟨b, n, w, e1, e2, e3, o, y1, y2, ep, zp⟩ := at_ (i + 1) (by omega)
      have ei : (1 : Int) + (i : Int) = ((i + 1 : Nat) : Int) := by omega
      refine ⟨_, rfl, _, rfl, _, rfl, _, rfl, a, t, pn, pw, c, g, i + 1, bs, ls, b, ns, ws, ss, n, w, by rw [ei]; rfl, hD.same s2, e1, o, g4, sqt_same s2 ht, hpn.same s2, hpw.same s2, e2, e3, y1, y2, hc.same s2, lc, zs, fun H3 u s3 nu hu => ?_⟩
      refine ⟨_, rfl, _, rfl, u, l, _, _, rfl, hu, hl.same s3, zp.mono (by decide), zl.mono (by decide), _, rfl, ite2 (fun e => ?_) (fun e => ?_)⟩
      · have e4 := of_decide_eq_true e
        refine ⟨_, rfl, s2.trans s3, u, _, _, rfl, s2.free nu, ?_, ?_⟩
        · rw [take_snoc ep, leastR_snoc (take_ne (by omega) (by omega)), if_pos e4]
          exact hu
        · rw [take_snoc ep, leastR_snoc (take_ne (by omega) (by omega)), if_pos e4]
          exact zp
      · have e4 : ¬ _ := fun z => e (decide_eq_true z)
        refine ⟨s2.trans s3, l, _, _, rfl, nl, ?_, ?_⟩
        · rw [take_snoc ep, leastR_snoc (take_ne (by omega) (by omega)), if_neg e4]
          exact hl.same s3
        · rw [take_snoc ep, leastR_snoc (take_ne (by omega) (by omega)), if_neg e4]
          exact zl
    · rintro σ H2 ⟨s2, l, y4, y5, rfl, nl, hl, zl⟩
      rw [show bs.length - 1 + 1 = bs.length by omega, List.take_of_length_le (by omega)] at hl
      exact ⟨_, rfl, Z _ _ s2 nl hl⟩
theorem ok__law_add {f : Addr} {fd : FuncData} (F : Fun K "_law_add" "_law_add" s__law_add f fd) : FnOk P w K mg base CX0 1 f fd ["_law_a", "_law_b"] (sp__law_add K) := by
  refine F.ok sc__law_add (fun vs H Q E h => ?_) (fun cdv A outer s H vs Q E hr h => ?_)
  · obtain ⟨a, b, p, q, u, v, n, rfl, _⟩ := h
    rfl
  · refine ⟨_, (pss_one (ps_ret (pe_tup (pa_cons (pe_op op_add (pe_op op_mulG (pe_ix ix_tup (pv 0) pe_int (fun _ _ => rfl)) (pe_ix ix_tup (pv 1) pe_int (fun _ _ => rfl))) (pe_op op_mulG (pe_ix ix_tup (pv 1) pe_int (fun _ _ => rfl)) (pe_ix ix_tup (pv 0) pe_int (fun _ _ => rfl)))) (pa_cons (pe_op op_mulG (pe_ix ix_tup (pv 0) pe_int (fun _ _ => rfl)) (pe_ix ix_tup (pv 1) pe_int (fun _ _ => rfl))) pa_nil))))), ?_⟩
    obtain ⟨a, b, p, q, u, v, n, rfl, ha, hb, hn, zp, zq, zu, zv, Z⟩ := h
    have hn2 : n + n ≤ 134217728 := by omega
    refine ⟨_, rfl, _, _, _, _, rfl, rfl, ha, rfl, _, rfl, _, _, _, _, rfl, rfl, hb, rfl, _, _, rfl, rfl, mulG_b zp zv hn2, _, rfl, _, _, _, _, rfl, rfl, hb, rfl, _, rfl, _, _, _, _, rfl, rfl, ha, rfl, _, _, rfl, rfl, mulG_b zu zq hn2, _, _, rfl, rfl, _, rfl, _, _, _, _, rfl, rfl, ha, rfl, _, rfl, _, _, _, _, rfl, rfl, hb, rfl, _, _, rfl, rfl, mulG_b zq zv hn2, by show 2 ≤ sizeLine; decide, fun t nt => ?_⟩
    exact Z _ t (same_upd nt) nt (SqT.of upd_same)
theorem ok__law_mul {f : Addr} {fd : FuncData} (F : Fun K "_law_mul" "_law_mul" s__law_mul f fd) : FnOk P w K mg base CX0 1 f fd ["_law_a", "_law_b"] (sp__law_mul K) := by
  refine F.ok sc__law_mul (fun vs H Q E h => ?_) (fun cdv A outer s H vs Q E hr h => ?_)
  · obtain ⟨a, b, p, q, u, v, n, rfl, _⟩ := h
    rfl
  · refine ⟨_, (pss_one (ps_ret (pe_tup (pa_cons (pe_op op_mulG (pe_ix ix_tup (pv 0) pe_int (fun _ _ => rfl)) (pe_ix ix_tup (pv 1) pe_int (fun _ _ => rfl))) (pa_cons (pe_op op_mulG (pe_ix ix_tup (pv 0) pe_int (fun _ _ => rfl)) (pe_ix ix_tup (pv 1) pe_int (fun _ _ => rfl))) pa_nil))))), ?_⟩
    obtain ⟨a, b, p, q, u, v, n, rfl, ha, hb, hn, zp, zq, zu, zv, Z⟩ := h
    have hn2 : n + n ≤ 134217728 := by omega
    refine ⟨_, rfl, _, _, _, _, rfl, rfl, ha, rfl, _, rfl, _, _, _, _, rfl, rfl, hb, rfl, _, _, rfl, rfl, mulG_b zp zu hn2, _, rfl, _, _, _, _, rfl, rfl, ha, rfl, _, rfl, _, _, _, _, rfl, rfl, hb, rfl, _, _, rfl, rfl, mulG_b zq zv hn2, by show 2 ≤ sizeLine; decide, fun t nt => ?_⟩
    exact Z _ t (same_upd nt) nt (SqT.of upd_same)
theorem ok__law_is_fraction {f : Addr} {fd : FuncData} (F : Fun K "_law_is_fraction" "_law_is_fraction" s__law_is_fraction f fd) (D__law_gcd : Dn P w K mg base CX0 1 "_law_gcd" (sp__law_gcd K)) (D__law_is_integer : Dn P w K mg base CX0 1 "_law_is_integer" (sp__law_is_integer K)) (m_isinstance : mg "isinstance" = none) (m_tuple : mg "tuple" = none) (m_len : mg "len" = none) (m_abs : mg "abs" = none) : FnOk P w K mg base CX0 2 f fd ["_law_x"] (sp__law_is_fraction K) := by
  refine F.ok sc__law_is_fraction (fun vs H Q E h => ?_) (fun cdv A outer s H vs Q E hr h => ?_)
  · obtain ⟨a, r, rfl, _⟩ := h
    rfl
  · refine ⟨_, (pss_cons (ps_if (PW.pt (pw_or (pt_not (pt_val (pe_callB call_isi (by rfl) m_isinstance (by decide +kernel) (pa_cons (pv 0) (pa_cons (pe_bltn (v := .ty "tuple") (by rfl) m_tuple (by decide +kernel) rfl) pa_nil))))) (pw_or1 (pt_cmpR op_ne (pe_callB call_len_seq (by rfl) m_len (by decide +kernel) (pa_cons (pv 0) pa_nil)) pe_int (nomark _)))))
      (pss_one (ps_ret pe_bl))
      pss_nil)
      (pss_cons (ps_if (PW.pt (pw_or (pt_not (pt_val (pe_d D__law_is_integer hr (by decide) (by rfl) pass0 (pa_cons (pe_ix ix_tup (pv 0) pe_int (fun _ _ => rfl)) pa_nil)))) (pw_or (pt_not (pt_val (pe_d D__law_is_integer hr (by decide) (by rfl) pass0 (pa_cons (pe_ix ix_tup (pv 0) pe_int (fun _ _ => rfl)) pa_nil)))) (pw_or1 (pt_cmpR op_lt (pe_ix ix_tup (pv 0) pe_int (fun _ _ => rfl)) pe_int (nomark _))))))
      (pss_one (ps_ret pe_bl))
      pss_nil)
      (pss_one (ps_ret (pe_cmpR op_eq (pe_d D__law_gcd hr (by decide) (by rfl) pass0 (pa_cons (pe_callB call_abs (by rfl) m_abs (by decide +kernel) (pa_cons (pe_ix ix_tup (pv 0) pe_int (fun _ _ => rfl)) pa_nil)) (pa_cons (pe_ix ix_tup (pv 0) pe_int (fun _ _ => rfl)) pa_nil))) pe_int (nomark _)))))), ?_⟩
    obtain ⟨a, r, rfl, ha, hd, Z⟩ := h
    refine ⟨_, rfl, _, _, _, _, true, rfl, .ty _, tyT ha, kit_ty (by decide +kernel), true, rfl, iteF ?_⟩
    refine ⟨_, rfl, _, _, rfl, .inr ha, rfl, _, rfl, iteNS rfl ?_⟩
    refine ⟨_, rfl, _, _, _, _, rfl, rfl, ha, rfl, _, rfl, true, rfl, iteF ?_⟩
    refine ⟨_, rfl, _, _, _, _, rfl, rfl, ha, rfl, _, rfl, true, rfl, iteF ?_⟩
    refine ⟨_, rfl, _, _, _, _, rfl, rfl, ha, rfl, _, _, rfl, rfl, _, rfl, ite2 (fun e => ?_) (fun e => ?_)⟩
    · have e' : (r.den : Int) < 1 := of_decide_eq_true e
      have := r.den_nz
      omega
    · refine ⟨_, rfl, _, _, _, _, rfl, rfl, ha, rfl, _, rfl, _, rfl, _, _, _, _, rfl, rfl, ha, rfl, _, _, rfl, abs_nn _, by omega, by omega, ?_⟩
      rw [abs_na, Int.natAbs_natCast, show Nat.gcd r.num.natAbs r.den = 1 from r.reduced]
      exact ⟨rfl, Z⟩
theorem ok__law_over {f : Addr} {fd : FuncData} (F : Fun K "_law_over" "_law_over" s__law_over f fd) : FnOk P w K mg base CX0 1 f fd ["_law_a", "_law_b"] (sp__law_over K) := by
  refine F.ok sc__law_over (fun vs H Q E h => ?_) (fun cdv A outer s H vs Q E hr h => ?_)
  · obtain ⟨a, b, p, q, u, v, n, rfl, _⟩ := h
    rfl
  · refine ⟨_, (pss_one (ps_ret (pe_op op_sub (pe_op op_mulG (pe_ix ix_tup (pv 0) pe_int (fun _ _ => rfl)) (pe_ix ix_tup (pv 1) pe_int (fun _ _ => rfl))) (pe_op op_mulG (pe_ix ix_tup (pv 1) pe_int (fun _ _ => rfl)) (pe_ix ix_tup (pv 0) pe_int (fun _ _ => rfl)))))), ?_⟩
    obtain ⟨a, b, p, q, u, v, n, rfl, ha, hb, hn, zp, zq, zu, zv, Z⟩ := h
    have hn2 : n + n ≤ 134217728 := by omega
    exact ⟨_, rfl, _, _, _, _, rfl, rfl, ha, rfl, _, rfl, _, _, _, _, rfl, rfl, hb, rfl, _, _, rfl, rfl, mulG_b zp zv hn2, _, rfl, _, _, _, _, rfl, rfl, hb, rfl, _, rfl, _, _, _, _, rfl, rfl, ha, rfl, _, _, rfl, rfl, mulG_b zu zq hn2, _, _, rfl, rfl, Z⟩
theorem ok__law_dot {f : Addr} {fd : FuncData} (F : Fun K "_law_dot" "_law_dot" s__law_dot f fd) (m_range : mg "range" = none) (m_len : mg "len" = none) : FnOk P w K mg base CX0 1 f fd ["_law_a", "_law_b"] (sp__law_dot K) := by
  refine F.ok sc__law_dot (fun vs H Q E h => ?_) (fun cdv A outer s H vs Q E hr h => ?_)
  · obtain ⟨a, b, rs, ss, B, rfl, _⟩ := h
    rfl
  · refine ⟨_, (pss_cons (ps_set (i := 2) sc__law_dot.nd rfl (Or.inl rfl) (pe_tup (pa_cons pe_int (pa_cons pe_int pa_nil))))
      (pss_cons (ps_for PassesOwn.never rfl (pi_range1 rfl m_range (pa_cons (pe_callB call_len_seq (by rfl) m_len (by decide +kernel) (pa_cons (pv 0) pa_nil)) pa_nil)) (pg_name (i := 3) sc__law_dot.nd rfl (Or.inl rfl))
      (pss_cons (ps_set (i := 4) sc__law_dot.nd rfl (Or.inl rfl) (pe_op op_mulG (pe_ix ix_tup (pe_ix ix_list (pv 0) (pv 3) (fun _ _ => rfl)) pe_int (fun _ _ => rfl)) (pe_ix ix_tup (pe_ix ix_list (pv 1) (pv 3) (fun _ _ => rfl)) pe_int (fun _ _ => rfl))))
      (pss_one (ps_set (i := 2) sc__law_dot.nd rfl (Or.inl rfl) (pe_tup (pa_cons (pe_op op_add (pe_op op_mulG (pe_ix ix_tup (pv 2) pe_int (fun _ _ => rfl)) (pv 4)) (pe_op op_mulG (pe_op op_mulG (pe_ix ix_tup (pe_ix ix_list (pv 0) (pv 3) (fun _ _ => rfl)) pe_int (fun _ _ => rfl)) (pe_ix ix_tup (pe_ix ix_list (pv 1) (pv 3) (fun _ _ => rfl)) pe_int (fun _ _ => rfl))) (pe_ix ix_tup (pv 2) pe_int (fun _ _ => rfl)))) (pa_cons (pe_op op_mulG (pe_ix ix_tup (pv 2) pe_int (fun _ _ => rfl)) (pv 4)) pa_nil)))))))
      (pss_one (ps_ret (pv 2))))), ?_⟩
    obtain ⟨a, b, rs, ss, B, rfl, hA, hB, hl, zr, zs, hz, hz2, Z⟩ := h
    obtain ⟨as, sA, fA⟩ := hA
    obtain ⟨bs, sB, fB⟩ := hB
    refine ⟨by show 2 ≤ sizeLine; decide, fun t0 n0 => ?_⟩
    have s0 : Same H (upd H t0 (.tup [.int 0, .int 1])) := same_upd n0
    refine ⟨_, rfl, a, _, rfl, .inl (s0.seq sA), ?_⟩
    rw [List.length_map, fA.1]
    refine ⟨_, rfl, by omega, by omega, ?_⟩
    refine for_range (lo := 0) (n := rs.length) (fun i σ H2 => Same H H2 ∧ ∃ (t : Addr) (y3 y4 : Option V) (p q : Int), H t = none ∧ σ = [some (.ref a), some (.ref b), some (.ref t), y3, y4] ∧ SqT K H2 t [.int p, .int q] ∧ 0 < q ∧ Rat.divInt p q = dotR (rs.take i) (ss.take i) ∧ p.natAbs < 2 ^ (i * (2 * B + 1) + 1) ∧ q.natAbs < 2 ^ (i * (2 * B + 1) + 1)) ⟨s0, t0, _, _, 0, 1, n0, rfl, SqT.of upd_same, by decide, ?_, Nat.pow_pos (by decide), Nat.one_lt_pow (by omega) (by decide)⟩ ?_ ?_
    · rw [List.take_zero, dotR_nil]
      exact Rat.zero_divInt _
    · rintro i σ H2 hi ⟨s2, t, y3, y4, p, q, nt, rfl, ht, q0, e, zp, zq⟩
      obtain ⟨x, r, _, hx, er, hr, _⟩ : ∃ a r, as[i]? = some a ∧ (as.map V.ref)[i]? = some (.ref a) ∧ rs[i]? = some r ∧ IsF K H2 a r ∧ True := by
        obtain ⟨a, r, h1, h2, h3, h4⟩ := (fA.same s2).get hi
        exact ⟨a, r, h1, h2, h3, h4, trivial⟩
      obtain ⟨y, s, _, hy, es, hs2, _⟩ : ∃ a r, bs[i]? = some a ∧ (bs.map V.ref)[i]? = some (.ref a) ∧ ss[i]? = some r ∧ IsF K H2 a r ∧ True := by
        obtain ⟨a, r, h1, h2, h3, h4⟩ := (fB.same s2).get (i := i) (by omega)
        exact ⟨a, r, h1, h2, h3, h4, trivial⟩
      have hx' : atI (as.map V.ref) (0 + (i : Int)) = some (.ref x) := by
        rw [Int.zero_add]; exact atI_nat hx
      have hy' : atI (bs.map V.ref) (0 + (i : Int)) = some (.ref y) := by
        rw [Int.zero_add]; exact atI_nat hy
      have sr := zr r (List.mem_of_getElem? er)
      have ss' := zs s (List.mem_of_getElem? es)
      have sA2 := s2.seq sA
      have sB2 := s2.seq sB
      have hmul : (i + 1) * (2 * B + 1) ≤ rs.length * (2 * B + 1) := Nat.mul_le_mul_right _ hi
      have hi0 : (i + 1) * (2 * B + 1) = i * (2 * B + 1) + (2 * B + 1) := Nat.succ_mul _ _
      have zd := natAbs_mul_lt sr.den ss'.den
      have zn := natAbs_mul_lt sr.1 ss'.1
      refine ⟨_, rfl, _, rfl, _, _, _, _, rfl, rfl, sA2, hx', _, _, _, _, rfl, rfl, hr, rfl, _, rfl, _, rfl, _, _, _, _, rfl, rfl, sB2, hy', _, _, _, _, rfl, rfl, hs2, rfl, _, _, rfl, rfl, mulG_b sr.den ss'.den (by omega), ?_⟩
      refine ⟨_, rfl, _, _, _, _, rfl, rfl, ht, rfl, _, rfl, _, _, rfl, rfl, mulG_b zp zd (by omega), _, rfl, _, rfl, _, _, _, _, rfl, rfl, sA2, hx', _, _, _, _, rfl, rfl, hr, rfl, _, rfl, _, rfl, _, _, _, _, rfl, rfl, sB2, hy', _, _, _, _, rfl, rfl, hs2, rfl, _, _, rfl, rfl, mulG_b sr.1 ss'.1 (by omega), _, rfl, _, _, _, _, rfl, rfl, ht, rfl, _, _, rfl, rfl, mulG_b zn zq (by omega), _, _, rfl, rfl, _, rfl, _, _, _, _, rfl, rfl, ht, rfl, _, rfl, _, _, rfl, rfl, mulG_b zq zd (by omega), by show 2 ≤ sizeLine; decide, fun u nu => ?_⟩
      have z1 := natAbs_mul_lt zp zd
      have z2 := natAbs_mul_lt zn zq
      have z3 := natAbs_mul_lt zq zd
      have z4 := natAbs_add_lt (Nat.lt_of_lt_of_le z1 (Nat.pow_le_pow_right (by decide) (show i * (2 * B + 1) + 1 + (B + B) ≤ i * (2 * B + 1) + 1 + (B + B) from Nat.le_refl _))) (Nat.lt_of_lt_of_le z2 (Nat.pow_le_pow_right (by decide) (show B + B + (i * (2 * B + 1) + 1) ≤ i * (2 * B + 1) + 1 + (B + B) by omega)))
      refine ⟨s2.trans (same_upd nu), u, _, _, _, _, s2.free nu, rfl, SqT.of upd_same, Int.mul_pos q0 (den_mul_pos r s), ?_, Nat.lt_of_lt_of_le z4 (Nat.pow_le_pow_right (by decide) (by omega)), Nat.lt_of_lt_of_le z3 (Nat.pow_le_pow_right (by decide) (by omega))⟩
      rw [dotR_take rs ss i r s er es]
      exact dot_step q0 e
    · rintro σ H2 ⟨s2, t, y3, y4, p, q, nt, rfl, ht, q0, e, zp, zq⟩
      rw [List.take_of_length_le (Nat.le_refl _), List.take_of_length_le (by omega)] at e
      exact ⟨_, rfl, Z p q _ t q0 e zp zq s2 nt ht⟩
theorem ok__law_gap {f : Addr} {fd : FuncData} (F : Fun K "_law_gap" "_law_gap" s__law_gap f fd) (D__law_dot : Dn P w K mg base CX0 1 "_law_dot" (sp__law_dot K)) : FnOk P w K mg base CX0 2 f fd ["_law_buys", "_law_i", "_law_basket"] (sp__law_gap K) := by
  refine F.ok sc__law_gap (fun vs H Q E h => ?_) (fun cdv A outer s H vs Q E hr h => ?_)
  · obtain ⟨vb, bs, i, g, b, c, ss, rfl, _⟩ := h
    rfl
  · refine ⟨_, (pss_cons (ps_set (i := 3) sc__law_gap.nd rfl (Or.inl rfl) (pe_d D__law_dot hr (by decide) (by rfl) pass0 (pa_cons (pe_ix ix_tup (pe_ix ix_list (pv 0) (pv 1) (fun _ _ => rfl)) pe_int (fun _ _ => rfl)) (pa_cons (pv 2) pa_nil))))
      (pss_cons (ps_set (i := 4) sc__law_gap.nd rfl (Or.inl rfl) (pe_d D__law_dot hr (by decide) (by rfl) pass0 (pa_cons (pe_ix ix_tup (pe_ix ix_list (pv 0) (pv 1) (fun _ _ => rfl)) pe_int (fun _ _ => rfl)) (pa_cons (pe_ix ix_tup (pe_ix ix_list (pv 0) (pv 1) (fun _ _ => rfl)) pe_int (fun _ _ => rfl)) pa_nil))))
      (pss_one (ps_ret (pe_tup (pa_cons (pe_op op_sub (pe_op op_mulG (pe_ix ix_tup (pv 3) pe_int (fun _ _ => rfl)) (pe_ix ix_tup (pv 4) pe_int (fun _ _ => rfl))) (pe_op op_mulG (pe_ix ix_tup (pv 4) pe_int (fun _ _ => rfl)) (pe_ix ix_tup (pv 3) pe_int (fun _ _ => rfl)))) (pa_cons (pe_op op_mulG (pe_ix ix_tup (pv 3) pe_int (fun _ _ => rfl)) (pe_ix ix_tup (pv 4) pe_int (fun _ _ => rfl))) pa_nil))))))), ?_⟩
    obtain ⟨vb, bs, i, g, b, c, ss, rfl, hB, eb, ob, g4, hC, lc, zc, Z⟩ := h
    obtain ⟨a, xs, t, p, q, rfl, sA, ax, ht, hp, hq⟩ := buys_get hB eb
    have l1 := ob.l1
    have l2 := ob.l2
    have zp : ∀ r ∈ b.1, Sz 80 r := fun r hr => (ob.p r hr).2.mono (by decide)
    have za : ∀ r ∈ b.2, Sz 80 r := fun r hr => (ob.a r hr).2
    refine ⟨_, rfl, _, rfl, _, _, _, _, rfl, rfl, sA, ax, _, _, _, _, rfl, rfl, ht, rfl, _, rfl, p, c, b.1, ss, 80, rfl, hp, hC, by omega, zp, zc, by omega, by omega, fun p1 q1 H1 t1 q10 e1 zp1 zq1 s1 n1 h1 => ?_⟩
    have sA1 := s1.seq sA
    have ht1 := sqt_same s1 ht
    refine ⟨_, rfl, _, rfl, _, _, _, _, rfl, rfl, sA1, ax, _, _, _, _, rfl, rfl, ht1, rfl, _, rfl, _, rfl, _, _, _, _, rfl, rfl, sA1, ax, _, _, _, _, rfl, rfl, ht1, rfl, p, q, b.1, b.2, 80, rfl, hp.same s1, hq.same s1, by omega, zp, za, by omega, by omega, fun p2 q2 H2 t2 q20 e2 zp2 zq2 s2 n2 h2 => ?_⟩
    have h1' := sqt_same s2 h1
    have up : ∀ x : Int, x.natAbs < 2 ^ (b.1.length * (2 * 80 + 1) + 1) → x.natAbs < 2 ^ 645 := fun x hx => Nat.lt_of_lt_of_le hx (Nat.pow_le_pow_right (by decide) (by omega))
    have zp1 := up _ zp1
    have zq1 := up _ zq1
    have zp2 := up _ zp2
    have zq2 := up _ zq2
    refine ⟨_, rfl, _, _, _, _, rfl, rfl, h1', rfl, _, rfl, _, _, _, _, rfl, rfl, h2, rfl, _, _, rfl, rfl, mulG_b zp1 zq2 (by decide), _, rfl, _, _, _, _, rfl, rfl, h2, rfl, _, rfl, _, _, _, _, rfl, rfl, h1', rfl, _, _, rfl, rfl, mulG_b zp2 zq1 (by decide), _, _, rfl, rfl, _, rfl, _, _, _, _, rfl, rfl, h1', rfl, _, rfl, _, _, _, _, rfl, rfl, h2, rfl, _, _, rfl, rfl, mulG_b zq1 zq2 (by decide), by show 2 ≤ sizeLine; decide, fun u nu => ?_⟩
    have z1 := natAbs_sub_lt (natAbs_mul_lt zp1 zq2) (natAbs_mul_lt zp2 zq1)
    have z2 := natAbs_mul_lt zq1 zq2
    refine Z _ _ _ u (Int.mul_pos q10 q20) ?_ (Nat.lt_of_lt_of_le z1 (Nat.pow_le_pow_right (by decide) (by decide))) (Nat.lt_of_lt_of_le z2 (Nat.pow_le_pow_right (by decide) (by decide))) ((s1.trans s2).trans (same_upd nu)) ((s1.trans s2).free nu) (SqT.of upd_same)
    unfold gapR
    rw [← e1, ← e2, Rat.divInt_sub_divInt _ _ (Int.ne_of_gt q10) (Int.ne_of_gt q20)]
theorem ok_law {f : Addr} {fd : FuncData} (F : Fun K "law" "law" s_law f fd) (D__law_data : Dn P w K mg base CX0 4 "_law_data" (sp__law_data K)) (D__law_made : Dn P w K mg base CX0 3 "_law_made" (sp__law_made K)) (D__law_unchanged : Dn P w K mg base CX0 8 "_law_unchanged" (sp__law_unchanged K)) (D__law_drawn : Dn P w K mg base CX0 3 "_law_drawn" (sp__law_drawn K)) (D__law_row : Dn P w K mg base CX0 1 "_law_row" (sp__law_row K)) (D_worth : Dn P w K mg base CX0 7 "worth" (sp_worth K)) (D__law_add : Dn P w K mg base CX0 1 "_law_add" (sp__law_add K)) (D__law_lowest : Dn P w K mg base CX0 2 "_law_lowest" (sp__law_lowest K)) (D__law_mul : Dn P w K mg base CX0 1 "_law_mul" (sp__law_mul K)) (D__law_is_fraction : Dn P w K mg base CX0 2 "_law_is_fraction" (sp__law_is_fraction K)) (D__law_over : Dn P w K mg base CX0 1 "_law_over" (sp__law_over K)) (D__law_gap : Dn P w K mg base CX0 2 "_law_gap" (sp__law_gap K)) (m_range : mg "range" = none) (m_len : mg "len" = none) (m_list : mg "list" = none) (m_int : mg "int" = none) : FnOk P w K mg base CX0 9 f fd ["_law_script"] (sp_law K) := by
  refine F.ok sc_law (fun vs H Q E h => ?_) (fun cdv A outer s H vs Q E hr h => ?_)
  · obtain ⟨a, ns, rfl, _⟩ := h
    rfl
  · refine ⟨_, (pss_cons (ps_asg (pe_d D__law_data hr (by decide) (by rfl) pass0 (pa_cons (pv 0) (pa_cons pe_int (pa_cons pe_int (pa_cons pe_int pa_nil))))) (pg_tup rfl (pgs_cons (pg_name (i := 1) sc_law.nd rfl (Or.inl rfl)) (pgs_cons (pg_name (i := 2) sc_law.nd rfl (Or.inl rfl)) (pgs_cons (pg_name (i := 3) sc_law.nd rfl (Or.inl rfl)) pgs_nil)))))
      (C8.pss_cut (ps_if (pt_not (pt_truth (pv 2) (by intro _; rfl)))
      (pss_cons (ps_set (i := 1) sc_law.nd rfl (Or.inl rfl) pe_int)
      (pss_one (ps_set (i := 2) sc_law.nd rfl (Or.inl rfl) (pe_lst (pa_cons (pe_tup (pa_cons (pe_lst (pa_cons (pe_tup (pa_cons pe_int (pa_cons pe_int pa_nil))) pa_nil)) (pa_cons (pe_lst (pa_cons (pe_tup (pa_cons pe_int (pa_cons pe_int pa_nil))) pa_nil)) pa_nil))) pa_nil)))))
      pss_nil)
      (pss_cons (ps_set (i := 4) sc_law.nd rfl (Or.inl rfl) (pe_d D__law_made hr (by decide) (by rfl) pass0 (pa_cons (pv 1) (pa_cons (pv 2) (pa_cons (pv 3) pa_nil)))))
      (pss_cons (ps_setLc (i := 5) (own := [("_law_k", 15)]) (g := gName 15) (tt := tYes) rfl sc_law.nd rfl rfl (sw_true rfl rfl rfl (by decide +kernel)) (pi_range1 rfl m_range (pa_cons (pe_callB call_len_seq (by rfl) m_len (by decide +kernel) (pa_cons (pv 2) pa_nil)) pa_nil)) (blkOk_by (N := N_law) (sc := defScope s_law) (by decide +kernel)) (fun _ _ _ _ _ => (pg_name (i := 15) sc_law.nd rfl (Or.inl rfl))) (fun _ _ _ _ _ => pts_nil) (fun _ _ _ _ _ => (pe_d D__law_drawn hr (by decide) (by rfl) pass0 (pa_cons (pe_d D__law_row hr (by decide) (by rfl) pass0 (pa_cons (pv 0) (pa_cons (pe_op op_add pe_int (pv 15)) (pa_cons pe_int pa_nil)))) pa_nil))))
      (pss_cons (ps_setLc (i := 6) (own := [("_law_k", 15)]) (g := gName 15) (tt := tYes) rfl sc_law.nd rfl rfl (sw_true rfl rfl rfl (by decide +kernel)) (pi_range1 rfl m_range (pa_cons (pe_callB call_len_seq (by rfl) m_len (by decide +kernel) (pa_cons (pv 2) pa_nil)) pa_nil)) (blkOk_by (N := N_law) (sc := defScope s_law) (by decide +kernel)) (fun _ _ _ _ _ => (pg_name (i := 15) sc_law.nd rfl (Or.inl rfl))) (fun _ _ _ _ _ => pts_nil) (fun _ _ _ _ _ => (pe_d D__law_drawn hr (by decide) (by rfl) pass0 (pa_cons (pe_d D__law_row hr (by decide) (by rfl) pass0 (pa_cons (pv 0) (pa_cons (pe_op op_add pe_int (pv 15)) (pa_cons pe_int pa_nil)))) pa_nil))))
      (pss_cons (ps_set (i := 7) sc_law.nd rfl (Or.inl rfl) (pe_op op_cat (pe_lc (own := [("_law_one", 16)]) (g := gName 16) (tt := tYes) rfl sc_law.nd (pi_list (pv 2)) (blkOk_by (N := N_law) (sc := defScope s_law) (by decide +kernel)) (fun _ _ _ _ _ => (pg_name (i := 16) sc_law.nd rfl (Or.inl rfl))) (fun _ _ _ _ _ => pts_nil) (fun _ _ _ _ _ => (pe_ix (ix_tupK (K := K) rfl) (pv 16) pe_int (fun _ _ => rfl)))) (pe_lst (pa_cons (pe_lc (own := [("_law_k", 15)]) (g := gName 15) (tt := tYes) rfl sc_law.nd (pi_range1 rfl m_range (pa_cons (pv 1) pa_nil)) (blkOk_by (N := N_law) (sc := defScope s_law) (by decide +kernel)) (fun _ _ _ _ _ => (pg_name (i := 15) sc_law.nd rfl (Or.inl rfl))) (fun _ _ _ _ _ => pts_nil) (fun _ _ _ _ _ => (pe_tup (pa_cons pe_int (pa_cons pe_int pa_nil))))) pa_nil))))
      (pss_cons (ps_for PassesOwn.never rfl (pi_tup (pe_tup (pa_cons pe_int (pa_cons pe_int pa_nil)))) (pg_name (i := 8) sc_law.nd rfl (Or.inl rfl))
      (pss_cons (ps_set (i := 9) sc_law.nd rfl (Or.inr rfl) (pe_d D__law_row hr (by decide) (by rfl) pass0 (pa_cons (pv 0) (pa_cons (pv 8) (pa_cons pe_int pa_nil)))))
      (pss_one (ps_expr (pe_bm PySem.F.plainAttrs_list PySem.F.slot_list_append PySem.F.type_list_append mt_append (pv 7) (pa_cons (pe_lc (own := [("_law_k", 15)]) (g := gName 15) (tt := tYes) rfl sc_law.nd (pi_range1 rfl m_range (pa_cons (pv 1) pa_nil)) (blkOk_by (N := N_law) (sc := defScope s_law) (by decide +kernel)) (fun _ _ _ _ _ => (pg_name (i := 15) sc_law.nd rfl (Or.inl rfl))) (fun _ _ _ _ _ => pts_nil) (fun _ _ _ _ _ => (pe_d D__law_lowest hr (by decide) (by rfl) pass0 (pa_cons (pe_op op_mulG (pe_ix (ix_listK (K := K) rfl) (pv 9) (pe_op op_mulG pe_int (pv 15)) (fun _ _ => rfl)) (pe_ix (ix_listK (K := K) rfl) (pv 9) (pe_op op_add pe_int (pv 15)) (fun _ _ => rfl))) (pa_cons (pe_op op_add pe_int (pe_op op_mod (pe_callTy call_int1 (by rfl) m_int (by decide +kernel) (pa_cons (pe_ix (ix_listK (K := K) rfl) (pv 9) (pe_op op_add (pe_op op_mulG pe_int (pv 15)) pe_int) (fun _ _ => rfl)) pa_nil)) pe_int)) pa_nil))))) pa_nil))))))
      (pss_cons (ps_for PassesOwn.never rfl (pi_list (pv 7)) (pg_name (i := 10) sc_law.nd rfl (Or.inl rfl))
      (pss_cons (ps_set (i := 11) sc_law.nd rfl (Or.inl rfl) pe_non)
      (pss_cons (ps_for PassesOwn.never rfl (pi_range1 rfl m_range (pa_cons (pe_callB call_len_seq (by rfl) m_len (by decide +kernel) (pa_cons (pv 2) pa_nil)) pa_nil)) (pg_name (i := 12) sc_law.nd rfl (Or.inl rfl))
      (pss_cons (ps_set (i := 13) sc_law.nd rfl (Or.inl rfl) (pe_d D__law_add hr (by decide) (by rfl) pass0 (pa_cons (pe_ix ix_list (pv 5) (pv 12) (fun _ _ => rfl)) (pa_cons (pe_d D__law_mul hr (by decide) (by rfl) pass0 (pa_cons (pe_ix ix_list (pv 6) (pv 12) (fun _ _ => rfl)) (pa_cons (pe_d D__law_gap hr (by decide) (by rfl) pass0 (pa_cons (pv 2) (pa_cons (pv 12) (pa_cons (pv 10) pa_nil)))) pa_nil))) pa_nil))))
      (pss_one (ps_if (PW.pt (pw_or (pt_cmpR op_isN (pv 11) pe_non (nomark _)) (pw_or1 (pt_cmpR op_lt (pe_d D__law_over hr (by decide) (by rfl) pass0 (pa_cons (pv 13) (pa_cons (pv 11) pa_nil))) pe_int (nomark _)))))
      (pss_one (ps_set (i := 11) sc_law.nd rfl (Or.inl rfl) (pv 13)))
      pss_nil))))
      (pss_cons (ps_set (i := 14) sc_law.nd rfl (Or.inl rfl) (pe_d D_worth hr (by decide) (by rfl) pass0 (pa_cons (pv 4) (pa_cons (pe_tup (pa_cons (pe_callTy call_list_of (by rfl) m_list (by decide +kernel) (pa_cons (pv 5) pa_nil)) (pa_cons (pe_callTy call_list_of (by rfl) m_list (by decide +kernel) (pa_cons (pv 6) pa_nil)) pa_nil))) (pa_cons (pe_callTy call_list_of (by rfl) m_list (by decide +kernel) (pa_cons (pv 10) pa_nil)) pa_nil)))))
      (pss_one (ps_if (PW.pt (pw_or (pt_not (pt_val (pe_d D__law_is_fraction hr (by decide) (by rfl) pass0 (pa_cons (pv 14) pa_nil)))) (pw_or1 (pt_cmpR op_ne (pe_d D__law_over hr (by decide) (by rfl) pass0 (pa_cons (pv 14) (pa_cons (pv 11) pa_nil))) pe_int (nomark _)))))
      (pss_one (ps_ret pe_bl))
      pss_nil))))))
      (pss_one (ps_ret (pe_d D__law_unchanged hr (by decide) (by rfl) pass0 (pa_cons (pv 4) (pa_cons (pv 1) (pa_cons (pv 2) (pa_cons (pv 3) pa_nil))))))))))))))), ?_⟩
    obtain ⟨a, ns, rfl, hS, _, Z⟩ := h
    refine ⟨_, rfl, a, ns, 0, 6, 3, rfl, hS, by decide, by decide, fun g0 bs0 ls ok H1 v s1 hv => ?_⟩
    obtain ⟨t, xs, rfl, ht, hx⟩ := dp_tup hv
    obtain ⟨x, y0, z, rfl, h1, hB, hL⟩ := dpa_three hx
    cases dp_int h1
    refine ⟨t, _, rfl, sqt_same fresh_sub ht, rfl, _, _, rfl, _, _, rfl, _, _, rfl, rfl, ?_⟩
    refine ⟨fun σ H2 => Same H H2 ∧ ∃ (g : Nat) (bs : List Buy) (y : V), σ = [some (.ref a), some (.int (g : Int)), some y, some z, none, none, none, none, none, none, none, none, none, none, none, none, none] ∧ Dp K (fresh H H2) y (bsD bs) ∧ Dp K (fresh H H2) z (lsD ls) ∧ 1 ≤ g ∧ g ≤ 4 ∧ 1 ≤ bs.length ∧ bs.length ≤ 6 ∧ (∀ b ∈ bs, okBuy g b), ?_, ?_⟩
    · obtain ⟨bA, xs, rfl, sB, hxs⟩ := dp_lst hB
      have lx : xs.length = bs0.length := by rw [dpa_len hxs, List.length_map]
      cases xs with
      | cons v vs =>
        refine ⟨_, rfl, true, .inl ⟨_, dp_sq sB, rfl⟩, iteF ⟨s1, g0, bs0, .ref bA, rfl, hB, hL, ok.g1, ok.g4, by rw [← lx]; exact Nat.succ_le_succ (Nat.zero_le _), ok.n, ok.b⟩⟩
      | nil =>
        refine ⟨_, rfl, false, .inl ⟨_, dp_sq sB, rfl⟩, iteT ?_⟩
        refine ⟨by show 2 ≤ sizeLine; decide, fun t1 n1 => ⟨(show 1 ≤ sizeLine by decide), fun l1 m1 => ⟨by show 2 ≤ sizeLine; decide, fun t2 n2 => ⟨(show 1 ≤ sizeLine by decide), fun l2 m2 => ⟨by show 2 ≤ sizeLine; decide, fun t3 n3 => ⟨(show 1 ≤ sizeLine by decide), fun l4 n4 => ?_⟩⟩⟩⟩⟩⟩
        have sa := s1.trans (same_upd (o := .tup [.int 2, .int 1]) n1)
        have d1 := new_fs sa m1 (fs_one (int_f (K := K) (n := 2) (SqT.of (upd_same (a := t1)))))
        have sb := sa.trans (same_upd (o := .lst [.ref t1]) m1)
        have sc := sb.trans (same_upd (o := .tup [.int 3, .int 1]) n2)
        have d2 := new_fs sc m2 (fs_one (int_f (K := K) (n := 3) (SqT.of (upd_same (a := t2)))))
        have sd := sc.trans (same_upd (o := .lst [.ref t2]) m2)
        have d12 := dp_same (fresh_mono ((same_upd (o := .tup [.int 3, .int 1]) n2).trans (same_upd (o := .lst [.ref t2]) m2))) d1
        have d3 := new_tup sd n3 (.cons d12 (.cons d2 .nil))
        have se := sd.trans (same_upd (o := .tup [.ref l1, .ref l2]) n3)
        have d4 := new_lst se n4 (.cons d3 .nil)
        have sf := se.trans (same_upd (o := .lst [.ref t3]) n4)
        have s1f : Same H1 _ := (((((same_upd (o := .tup [.int 2, .int 1]) n1).trans (same_upd (o := .lst [.ref t1]) m1)).trans (same_upd (o := .tup [.int 3, .int 1]) n2)).trans (same_upd (o := .lst [.ref t2]) m2)).trans (same_upd (o := .tup [.ref l1, .ref l2]) n3)).trans (same_upd (o := .lst [.ref t3]) n4)
        refine ⟨sf, 1, [([Rat.divInt 2 1], [Rat.divInt 3 1])], .ref l4, rfl, d4, dp_same (fresh_mono s1f) hL, by decide, by decide, by decide, by decide, fun b hb => ?_⟩
        rw [List.mem_singleton.mp hb]
        exact ok_one
    rintro σ H2 ⟨s2, g, bs, y, rfl, hB2, hL2, g1, g4, b1, b6, okb⟩
    obtain ⟨bA, xs, rfl, sB', hxs⟩ := dp_lst hB2
    have sB := dp_sq sB'
    have lx : xs.length = bs.length := by rw [dpa_len hxs, List.length_map]
    have lb : ∀ b ∈ bs, b.1.length ≤ 1000 ∧ b.2.length ≤ 1000 := fun b hb => by
      have o := okb b hb
      exact ⟨by rw [o.l1]; omega, by rw [o.l2]; omega⟩
    have hm := ok.m
    refine ⟨_, rfl, _, rfl, _, rfl, g, bs, ls, .ref bA, z, rfl, dp_same fresh_sub hB2, dp_same fresh_sub hL2, by omega, by omega, lb, fun H3 p s3 np hN => ?_⟩
    have hS3 : SqL K H3 a (ns.map V.int) := (s2.trans s3).seq hS
    -- numbers
    refine ⟨_, rfl, bA, _, rfl, .inl (s3.seq sB), ?_⟩
    rw [lx]
    refine ⟨_, rfl, by omega, by omega, fun A0 nA => ?_⟩
    refine lc_range (lo := 0) (n := bs.length) (fun i H4 => ∃ rs, rs.length = i ∧ (∀ r ∈ rs, Sz 100 r) ∧ Grow K H3 H4 A0 rs) ⟨[], rfl, (fun r hr => by cases hr), Grow.start nA⟩ ?_ ?_
    · rintro i H4 hi ⟨rs, el, zr, gr⟩
      refine ⟨rfl, _, rfl, _, rfl, _, _, rfl, rfl, _, _, 9 + (0 + i), 24, rfl, gr.same.seq hS3, by decide, fun H5 o5 row5 s5 _ hr5 e5 => ?_⟩
      refine ⟨_, _, rfl, SqL.of e5, hr5, fun r sr H6 p s6 _ hp => ?_⟩
      obtain ⟨acc, x1, x2, g2⟩ := gr.step (s5.trans s6) hp (by omega)
      refine ⟨acc, x1, x2, rs ++ [r], by rw [List.length_append, el]; rfl, fun q hq => ?_, g2⟩
      rcases List.mem_append.mp hq with hq | hq
      · exact zr q hq
      · rw [List.mem_singleton] at hq; subst hq; exact sr
    rintro H4 ⟨nsR, ln, zn, gA⟩
    -- weights
    refine ⟨_, rfl, bA, _, rfl, .inl (gA.same.seq (s3.seq sB)), ?_⟩
    rw [lx]
    refine ⟨_, rfl, by omega, by omega, fun B0 nB => ?_⟩
    refine lc_range (lo := 0) (n := bs.length) (fun i H5 => ∃ rs, rs.length = i ∧ (∀ r ∈ rs, Sz 100 r) ∧ Grow K H4 H5 B0 rs) ⟨[], rfl, (fun r hr => by cases hr), Grow.start nB⟩ ?_ ?_
    · rintro i H5 hi ⟨rs, el, zr, gr⟩
      refine ⟨rfl, _, rfl, _, rfl, _, _, rfl, rfl, _, _, 15 + (0 + i), 24, rfl, gr.same.seq (gA.same.seq hS3), by decide, fun H5 o5 row5 s5 _ hr5 e5 => ?_⟩
      refine ⟨_, _, rfl, SqL.of e5, hr5, fun r sr H6 p s6 _ hp => ?_⟩
      obtain ⟨acc, x1, x2, g2⟩ := gr.step (s5.trans s6) hp (by omega)
      refine ⟨acc, x1, x2, rs ++ [r], by rw [List.length_append, el]; rfl, fun q hq => ?_, g2⟩
      rcases List.mem_append.mp hq with hq | hq
      · exact zr q hq
      · rw [List.mem_singleton] at hq; subst hq; exact sr
    rintro H5 ⟨wsR, lw, zw, gB⟩
    have s35 := gA.same.trans gB.same
    have s05 := (s2.trans s3).trans s35
    -- baskets
    have sB5 := (s3.trans s35).seq sB
    refine ⟨_, rfl, bA, rfl, ⟨_, sB5⟩, fun D1 nD1 => ?_⟩
    refine lc_list (xs := xs) (fun i H6 => Same H5 H6 ∧ Gr K H H6 [D1] D1 ((bs.take i).map fun b : Buy => fsD b.2)) ⟨same_upd nD1, by rw [List.take_zero]; exact Gr.start (s05) nD1 (by simp)⟩ (fun i H2 _ h => h.1.seq sB5) ?_ ?_
    · rintro i x H6 hi ⟨s6, gD⟩
      obtain ⟨d, hd, hdx⟩ := dpa_got hxs hi
      rw [List.getElem?_map] at hd
      cases eb : bs[i]? with
      | none => rw [eb] at hd; cases hd
      | some b =>
        rw [eb] at hd
        cases Option.some.inj hd
        obtain ⟨t, zs, rfl, ht, hz⟩ := dp_tup hdx
        obtain ⟨p1, q1, rfl, hp1, hq1⟩ := dpa_two hz
        obtain ⟨pq, rfl, _⟩ := fsAt_of hq1
        have ht6 := sqt_same ((s3.trans s35).trans s6) (sqt_same fresh_sub ht)
        refine ⟨rfl, _, rfl, _, _, _, _, rfl, rfl, ht6, rfl, ?_⟩
        obtain ⟨acc, e1, e2, g2⟩ := gD.push (dp_same (keep_but ((s3.trans s35).trans s6) ((s3.trans s35).free nD1)) hq1) (by rw [List.length_map, List.length_take]; omega)
        refine ⟨acc, e1, e2, same_mut s6 nD1, ?_⟩
        rw [List.take_add_one, eb, List.map_append]
        exact g2
    rintro H6 ⟨s6, gD⟩
    rw [lx, List.take_of_length_le (Nat.le_refl _)] at gD
    obtain ⟨_, nD10, ds, eD, hds⟩ := gD
    refine ⟨_, rfl, _, rfl, by omega, by omega, fun D2 nD2 => ?_⟩
    refine lc_range (lo := 0) (n := g) (fun i H7 => Grow K H6 H7 D2 (List.replicate i 0)) (Grow.start nD2) ?_ ?_
    · rintro i H7 hi gr
      refine ⟨rfl, by show 2 ≤ sizeLine; decide, fun t nt => ?_⟩
      obtain ⟨acc, x1, x2, g2⟩ := gr.step (same_upd (o := .tup [.int 0, .int 1]) nt) (a := t) (r := 0) (SqT.of upd_same) (by rw [List.length_replicate]; omega)
      refine ⟨acc, x1, x2, ?_⟩
      rw [List.replicate_succ']
      exact g2
    rintro H7 gZ
    refine ⟨(show 1 ≤ sizeLine by decide), fun l2 m2 => ?_⟩
    have s7 := gZ.same.trans (same_upd (o := .lst [.ref D2]) m2)
    refine ⟨D1, l2, ds, [.ref D2], rfl, rfl, s7 _ _ eD, upd_same, ?_, fun pb npb => ?_⟩
    · rw [dpa_len hds, List.length_map]
      exact Nat.le_trans (by show bs.length + 1 ≤ 7; omega) (show 7 ≤ sizeLine by decide)
    have s57 := s6.trans s7
    have nP5 := s57.free npb
    have hB5 : DpAll K (fresh H _) ds (bs.map fun b : Buy => fsD b.2) := dpa_same ((but_sub (Ds := [D1])).trans (fresh_mono s7)) hds
    have hZ : Dp K (fresh H _) (.ref D2) (fsD (List.replicate g 0)) := dp_same ((fresh_old (s05.trans s6)).trans (fresh_mono (same_upd (o := .lst [.ref D2]) m2))) gZ.dp
    have gP : Gr K H (upd (upd H7 l2 (.lst [.ref D2])) pb (.lst (ds ++ [.ref D2]))) [pb] pb ((bs.map (fun b : Buy => b.2) ++ [List.replicate g 0]).map fsD) := by
      refine ⟨by simp, (s05.trans s57).free npb, _, upd_same, ?_⟩
      rw [List.map_append, List.map_map]
      exact dpa_same (keep_but (same_upd npb) npb) (dpa_append hB5 (.cons hZ .nil))
    have zb : ∀ ss ∈ bs.map (fun b : Buy => b.2) ++ [List.replicate g 0], ss.length = g ∧ ∀ s ∈ ss, Sz 80 s := fun ss hss => by
      rcases List.mem_append.mp hss with hss | hss
      · obtain ⟨b, hb, rfl⟩ := List.mem_map.mp hss
        exact ⟨(okb b hb).l2, fun s hs => ((okb b hb).a s hs).2⟩
      · rw [List.mem_singleton.mp hss]
        refine ⟨List.length_replicate, fun s hs => ?_⟩
        rw [List.eq_of_mem_replicate hs]
        exact sz_zero.mono (by decide)
    have nb0 : (bs.map (fun b : Buy => b.2) ++ [List.replicate g 0]).length = bs.length + 1 := by rw [List.length_append, List.length_map]; rfl
    generalize bs.map (fun b : Buy => b.2) ++ [List.replicate g 0] = bk0 at gP zb nb0
    have s5P : Same H5 (upd (upd H7 l2 (.lst [.ref D2])) pb (.lst (ds ++ [.ref D2]))) := same_mut s57 nP5
    generalize upd (upd H7 l2 (.lst [.ref D2])) pb (.lst (ds ++ [.ref D2])) = H8 at gP s5P ⊢
    refine ⟨by show 2 ≤ sizeLine; decide, fun tt ntt => ?_⟩
    refine ⟨tt, rfl, ⟨_, SqT.of upd_same⟩, ?_⟩
    refine for_tup (xs := [.int 21, .int 22]) (fun i σ H9 => Same H5 H9 ∧ H9 tt = some (.tup [.int 21, .int 22]) ∧ ∃ (bk : List (List Rat)) (y8 y9 y10 y11 y12 y13 y14 : Option V), σ = [some (.ref a), some (.int (g : Int)), some (.ref bA), some z, some (.ref p), some (.ref A0), some (.ref B0), some (.ref pb), y8, y9, y10, y11, y12, y13, y14, none, none] ∧ Gr K H H9 [pb] pb (bk.map fsD) ∧ (∀ ss ∈ bk, ss.length = g ∧ ∀ s ∈ ss, Sz 80 s) ∧ bk.length = bs.length + 1 + i) ⟨s5P.trans (same_upd ntt), upd_same, bk0, _, _, _, _, _, _, _, rfl, gP.same (same_upd ntt), zb, nb0⟩ (fun i σ H9 _ h => SqT.of h.2.1) ?_ ?_
    · rintro i x σ H9 hx ⟨s9, ht9, bk, y8, y9, y10, y11, y12, y13, y14, rfl, gB9, zb9, nb9⟩
      obtain ⟨hi2, rfl⟩ : i < 2 ∧ x = .int ((21 + i : Nat) : Int) := by
        match i, hx with
        | 0, hx => exact ⟨by decide, (Option.some.inj hx).symm⟩
        | 1, hx => exact ⟨by decide, (Option.some.inj hx).symm⟩
        | n + 2, hx => simp at hx
      refine ⟨_, rfl, _, rfl, _, _, 21 + i, 24, rfl, (s05.trans s9).seq hS, by decide, fun Ha ro row sa nro hrow ero => ?_⟩
      have gBa := gB9.same sa
      obtain ⟨_, _, acc0, eP, _⟩ := id gBa
      refine ⟨_, rfl, .inl ⟨rfl, _, SqL.of eP⟩, ?_⟩
      refine ⟨_, rfl, _, rfl, by omega, by omega, fun D nD => ?_⟩
      refine lc_range (lo := 0) (n := g) (fun k Hb => ∃ rs, rs.length = k ∧ (∀ r ∈ rs, Sz 80 r) ∧ Grow K Ha Hb D rs) ⟨[], rfl, (fun r hr => by cases hr), Grow.start nD⟩ ?_ ?_
      · rintro k Hb hk ⟨rs, el, zr, gr⟩
        obtain ⟨v1, a1, b1, c1⟩ := hrow.at (2 * k) (by omega)
        obtain ⟨v2, a2, b2, c2⟩ := hrow.at (8 + k) (by omega)
        obtain ⟨v3, a3, b3, c3⟩ := hrow.at (2 * k + 1) (by omega)
        have q1 : atI (row.map V.int) (2 * (0 + (k : Int))) = some (.int v1) := by
          rw [show (2 : Int) * (0 + (k : Int)) = ((2 * k : Nat) : Int) by omega]; exact a1
        have q2 : atI (row.map V.int) (8 + (0 + (k : Int))) = some (.int v2) := by
          rw [show (8 : Int) + (0 + (k : Int)) = ((8 + k : Nat) : Int) by omega]; exact a2
        have q3 : atI (row.map V.int) (2 * (0 + (k : Int)) + 1) = some (.int v3) := by
          rw [show (2 : Int) * (0 + (k : Int)) + 1 = ((2 * k + 1 : Nat) : Int) by omega]; exact a3
        have sr := SqL.of (K := K) (gr.same _ _ ero)
        refine ⟨rfl, _, rfl, _, rfl, _, _, rfl, rfl, mulG_l (by decide), _, _, _, _, rfl, rfl, sr, q1, _, rfl, _, rfl, _, _, rfl, rfl, _, _, _, _, rfl, rfl, sr, q2, _, _, rfl, rfl, mulG_l (by omega), ?_⟩
        refine ⟨_, rfl, _, rfl, _, _, rfl, rfl, mulG_l (by decide), _, _, rfl, rfl, _, _, _, _, rfl, rfl, sr, q3, .inl ⟨_, rfl, _, _, rfl, rfl, by show (0 : Int) < 40; decide, _, _, rfl, rfl, ?_⟩⟩
        have m1 : v1 * v2 ≤ 999 * 999 := Int.mul_le_mul (by omega) (by omega) (by omega) (by decide)
        have m0 : 0 ≤ v1 * v2 := Int.mul_nonneg (by omega) (by omega)
        refine ⟨v1 * v2, 1 + v3 % 40, rfl, by omega, Nat.lt_trans (show (1 + v3 % 40).natAbs < 2 ^ 10 by omega) (Nat.pow_lt_pow_right (by decide) (by decide)), fun Hc m sc nm hm => ?_⟩
        have zm : Sz 80 (Rat.divInt (v1 * v2) (1 + v3 % 40)) := (divInt_sz (n := 30) (by omega) (by omega) (by omega)).mono (by decide)
        obtain ⟨acc, x1, x2, g2⟩ := gr.step sc hm (by omega)
        refine ⟨acc, x1, x2, rs ++ [_], by rw [List.length_append, el]; rfl, fun q hq => ?_, g2⟩
        rcases List.mem_append.mp hq with hq | hq
        · exact zr q hq
        · rw [List.mem_singleton] at hq; subst hq; exact zm
      rintro Hb ⟨rs, el, zr, gr⟩
      have gBb := gBa.same gr.same
      have eb := gr.same _ _ eP
      obtain ⟨acc, x1, x2, g2⟩ := gBb.push (new_in ((s05.trans s9).trans sa) (fun D hD => by rw [List.mem_singleton.mp hD]; exact gBa.hard) gr.dp) (by rw [List.length_map]; omega)
      refine ⟨_, _, _, rfl, rfl, x1, x2, same_mut ((s9.trans sa).trans gr.same) nP5, ?_, bk ++ [rs], _, _, _, _, _, _, _, rfl, by rw [List.map_append]; exact g2, fun ss hss => ?_, by rw [List.length_append, nb9]; rfl⟩
      · rw [upd_ne (ne_of ((sa.trans gr.same) _ _ ht9) eb fun q => nomatch q)]
        exact (sa.trans gr.same) _ _ ht9
      · rcases List.mem_append.mp hss with hss | hss
        · exact zb9 ss hss
        · rw [List.mem_singleton.mp hss]; exact ⟨el, zr⟩
    rintro σ H9 ⟨s9, ht9, bk, y8, y9, y10, y11, y12, y13, y14, rfl, gB9, zb9, nb9⟩
    obtain ⟨bl, sP, hbl⟩ := gB9.seq
    obtain ⟨as, eA, fA⟩ := gA.ex
    obtain ⟨cs, eB, fB⟩ := gB.ex
    refine ⟨_, rfl, pb, rfl, ⟨_, sP⟩, ?_⟩
    refine for_list (K := K) (a := pb) (xs := bl) (fun k σ Ha => Same H9 Ha ∧ ∃ (y8 y9 y10 y11 y12 y13 y14 : Option V), σ = [some (.ref a), some (.int (g : Int)), some (.ref bA), some z, some (.ref p), some (.ref A0), some (.ref B0), some (.ref pb), y8, y9, y10, y11, y12, y13, y14, none, none]) ⟨Same.refl _, _, _, _, _, _, _, _, rfl⟩ (fun k σ H2 _ h => h.1.seq sP) ?_ ?_
    · rintro k x σ Ha hk ⟨sa, y8, y9, y10, y11, y12, y13, y14, rfl⟩
      obtain ⟨d, hd, hdx⟩ := dpa_got hbl hk
      rw [List.getElem?_map] at hd
      cases ess : bk[k]? with
      | none => rw [ess] at hd; cases hd
      | some ss =>
      rw [ess] at hd
      cases Option.some.inj hd
      obtain ⟨c, rfl, hc⟩ := fsAt_of (dp_same sa hdx)
      obtain ⟨lss, zss⟩ := zb9 ss (List.mem_of_getElem? ess)
      have at_ : ∀ i, i < bs.length → ∃ b n w, bs[i]? = some b ∧ nsR[i]? = some n ∧ wsR[i]? = some w ∧ okBuy g b ∧ Sz 100 n ∧ Sz 100 w ∧ (planesR bs nsR wsR ss)[i]? = some (n + w * gapR b ss) := fun i hi => by
        have e1 : bs[i]? = some bs[i] := List.getElem?_eq_getElem hi
        have e2 : nsR[i]? = some (nsR[i]'(by omega)) := List.getElem?_eq_getElem _
        have e3 : wsR[i]? = some (wsR[i]'(by omega)) := List.getElem?_eq_getElem _
        exact ⟨_, _, _, e1, e2, e3, okb _ (List.mem_of_getElem? e1), zn _ (List.mem_of_getElem? e2), zw _ (List.mem_of_getElem? e3), planesR_at e1 e2 e3⟩
      have lp := planesR_len (ss := ss) (show nsR.length = bs.length by omega) (show wsR.length = bs.length by omega)
      have s9a := s9.trans sa
      have sA := (gB.same.trans s9a) _ _ eA
      have fA2 := (fA.same gB.same).same s9a
      have sB3 := s9a _ _ eB
      have fB2 := fB.same s9a
      have sb := s9a.seq sB5
      refine ⟨_, rfl, bA, _, rfl, .inl sb, ?_⟩
      rw [lx]
      refine ⟨_, rfl, by omega, by omega, ?_⟩
      refine for_range (lo := 0) (n := bs.length) (fun i σ Hb => Same Ha Hb ∧ ∃ (y11 : V) (y12 y13 : Option V), σ = [some (.ref a), some (.int (g : Int)), some (.ref bA), some z, some (.ref p), some (.ref A0), some (.ref B0), some (.ref pb), y8, y9, some (.ref c), some y11, y12, y13, y14, none, none] ∧ ((i = 0 ∧ y11 = .non) ∨ (0 < i ∧ ∃ (lt : Addr) (u v : Int), y11 = .ref lt ∧ SqT K Hb lt [.int u, .int v] ∧ 0 < v ∧ Rat.divInt u v = leastR ((planesR bs nsR wsR ss).take i) ∧ u.natAbs < 2 ^ 4000 ∧ v.natAbs < 2 ^ 4000))) ⟨Same.refl _, _, _, _, rfl, .inl ⟨rfl, rfl⟩⟩ ?_ ?_
      · rintro i σ Hb hi ⟨sb2, y11, y12, y13, rfl, hcase⟩
        rw [Int.zero_add]
        obtain ⟨b, n, w, e1, e2, e3, ob, zn1, zw1, ep⟩ := at_ i hi
        obtain ⟨xn, xn1, hxn⟩ := fA2.at e2
        obtain ⟨xw, xw1, hxw⟩ := fB2.at e3
        have xn2 := atI_nat xn1
        have xw2 := atI_nat xw1
        have sA4 := SqL.of (K := K) (sb2 _ _ sA)
        have sB4 := SqL.of (K := K) (sb2 _ _ sB3)
        refine ⟨_, rfl, _, rfl, _, _, _, _, rfl, rfl, sA4, xn2, _, rfl, _, rfl, _, _, _, _, rfl, rfl, sB4, xw2, _, rfl, _, rfl, _, rfl, .ref bA, bs, i, g, b, c, ss, rfl, dp_same ((s3.trans s35).trans (s9a.trans sb2)) (dp_same fresh_sub hB2), e1, ob, g4, hc.same sb2, lss, zss, fun pg qg Hc tg qg0 eg zpg zqg sc ntg htg => ?_⟩
        refine ⟨xw, tg, w.num, w.den, pg, qg, 3000, rfl, (hxw.same sb2).same sc, htg, by decide, Nat.lt_of_lt_of_le zw1.1 (Nat.pow_le_pow_right (by decide) (by decide)), Nat.lt_of_lt_of_le zw1.den (Nat.pow_le_pow_right (by decide) (by decide)), zpg, zqg, fun Hd tm sd ntm htm => ?_⟩
        have z1 := natAbs_mul_lt zw1.1 zpg
        have z2 := natAbs_mul_lt zw1.den zqg
        refine ⟨xn, tm, n.num, n.den, w.num * pg, w.den * qg, 3200, rfl, ((hxn.same sb2).same sc).same sd, htm, by decide, Nat.lt_of_lt_of_le zn1.1 (Nat.pow_le_pow_right (by decide) (by decide)), Nat.lt_of_lt_of_le zn1.den (Nat.pow_le_pow_right (by decide) (by decide)), Nat.lt_of_lt_of_le z1 (Nat.pow_le_pow_right (by decide) (by decide)), Nat.lt_of_lt_of_le z2 (Nat.pow_le_pow_right (by decide) (by decide)), fun He te se nte hte => ?_⟩
        have v0 : 0 < (n.den : Int) * (w.den * qg) := Int.mul_pos (den_pos n) (Int.mul_pos (den_pos w) qg0)
        have er := plane_raw (n := n) (w := w) qg0 eg
        have zu : (n.num * (w.den * qg) + w.num * pg * n.den).natAbs < 2 ^ 4000 := Nat.lt_of_lt_of_le (natAbs_add_lt (natAbs_mul_lt zn1.1 z2) (by rw [Int.mul_comm]; exact natAbs_mul_lt zn1.den z1)) (Nat.pow_le_pow_right (by decide) (by decide))
        have zv : ((n.den : Int) * (w.den * qg)).natAbs < 2 ^ 4000 := Nat.lt_of_lt_of_le (natAbs_mul_lt zn1.den z2) (Nat.pow_le_pow_right (by decide) (by decide))
        generalize n.num * (w.den * qg) + w.num * pg * n.den = U at er zu hte
        generalize (n.den : Int) * (w.den * qg) = W at er zv hte v0
        have sbe := sb2.trans (sc.trans (sd.trans se))
        rcases hcase with ⟨rfl, rfl⟩ | ⟨i0, lt, u, v, rfl, hlt, vv, ev, zu2, zv2⟩
        · refine ⟨_, rfl, rfl, _, rfl, ?_⟩
          refine ⟨_, rfl, sbe, .ref te, _, _, rfl, .inr ⟨by omega, te, U, W, rfl, hte, v0, ?_, zu, zv⟩⟩
          rw [take_snoc ep, List.take_zero]
          exact er
        · refine ⟨_, rfl, rfl, _, rfl, ?_⟩
          refine ⟨_, rfl, _, rfl, te, lt, U, W, u, v, 4000, rfl, hte, sqt_same (sc.trans (sd.trans se)) hlt, by decide, zu, zv, zu2, zv2, _, _, rfl, rfl, _, rfl, ite2 (fun e => ?_) (fun e => ?_)⟩
          · have e4 := (over_lt v0 vv).mp (of_decide_eq_true e)
            rw [er, ev] at e4
            refine ⟨_, rfl, sbe, .ref te, _, _, rfl, .inr ⟨by omega, te, U, W, rfl, hte, v0, ?_, zu, zv⟩⟩
            rw [take_snoc ep, leastR_snoc (take_ne i0 (by omega)), if_pos e4]
            exact er
          · have e4 : ¬ n + w * gapR b ss < leastR ((planesR bs nsR wsR ss).take i) := fun q => e (decide_eq_true ((over_lt v0 vv).mpr (by rw [er, ev]; exact q)))
            refine ⟨sbe, .ref lt, _, _, rfl, .inr ⟨by omega, lt, u, v, rfl, sqt_same (sc.trans (sd.trans se)) hlt, vv, ?_, zu2, zv2⟩⟩
            rw [take_snoc ep, leastR_snoc (take_ne i0 (by omega)), if_neg e4]
            exact ev
      rintro σ Hb ⟨sb2, y11, y12, y13, rfl, hcase⟩
      rcases hcase with ⟨z0, _⟩ | ⟨i0, lt, u, v, rfl, hlt, vv, ev, zu2, zv2⟩
      · omega
      rw [List.take_of_length_le (by omega)] at ev
      have sA4 := SqL.of (K := K) (sb2 _ _ sA)
      refine ⟨_, rfl, _, rfl, A0, _, rfl, .inl sA4, fun l1 n1 => ?_⟩
      have q1 := same_upd (o := .lst (as.map V.ref)) n1
      refine ⟨_, rfl, B0, _, rfl, .inl (SqL.of ((sb2.trans q1) _ _ sB3)), fun l2 n2 => ?_⟩
      have q2 := same_upd (o := .lst (cs.map V.ref)) n2
      refine ⟨by show 2 ≤ sizeLine; decide, fun t3 n3 => ?_⟩
      have q3 := same_upd (o := .tup [.ref l1, .ref l2]) n3
      obtain ⟨qs, hqs, hqf⟩ := (hc.same sb2).same (q1.trans (q2.trans q3))
      refine ⟨_, rfl, c, _, rfl, .inl hqs, fun l4 n4 => ?_⟩
      have q4 := same_upd (o := .lst (qs.map V.ref)) n4
      have q14 := q1.trans (q2.trans (q3.trans q4))
      refine ⟨p, t3, l1, l2, l4, g, bs, ls, nsR, wsR, ss, rfl, hN.at.same (s35.trans (s9a.trans (sb2.trans q14))), okb, g4, b1, by omega, SqT.of (q4 _ _ upd_same), ⟨as, SqL.of ((q2.trans (q3.trans q4)) _ _ upd_same), fA2.same (sb2.trans q14)⟩, ⟨cs, SqL.of ((q3.trans q4) _ _ upd_same), fB2.same (sb2.trans q14)⟩, by omega, by omega, (fun n hn => (zn n hn).mono (by decide)), (fun w hw => (zw w hw).mono (by decide)), ⟨qs, SqL.of upd_same, hqf.same q4⟩, lss, zss, fun Hc r sc nr hr => ?_⟩
      have hlt2 := sqt_same sc (sqt_same q14 hlt)
      have zl : Sz 3300 (leastR (planesR bs nsR wsR ss)) := by
        have hm := leastR_mem (xs := planesR bs nsR wsR ss) (fun q => by rw [q] at lp; simp at lp; omega)
        obtain ⟨i, hi⟩ := List.getElem?_of_mem hm
        obtain ⟨b, n, w, e1, e2, e3, o, zn1, zw1, ep⟩ := at_ i (by have := (List.getElem?_eq_some_iff.mp hi).1; omega)
        rw [hi] at ep
        rw [Option.some.inj ep]
        have l1' := o.l1
        have z1 : Sz 645 (dotR b.1 ss) := (dotR_sz (B := 80) (fun r hr => (o.p r hr).2.mono (by decide)) zss).mono (by omega)
        have z2 : Sz 645 (dotR b.1 b.2) := (dotR_sz (B := 80) (fun r hr => (o.p r hr).2.mono (by decide)) (fun r hr => (o.a r hr).2)).mono (by omega)
        have zg : Sz 1291 (gapR b ss) := z1.sub z2
        exact (zn1.add (zw1.mul zg)).mono (by decide)
      refine ⟨_, rfl, r, _, rfl, hr, Nat.lt_of_lt_of_le zl.2 (Nat.pow_le_pow_right (by decide) (by decide)), true, rfl, iteF ?_⟩
      have e0 := over_eq (p := (leastR (planesR bs nsR wsR ss)).num) (u := u) (den_pos (leastR (planesR bs nsR wsR ss))) vv (by rw [Rat.num_divInt_den, ev])
      refine ⟨_, rfl, _, rfl, r, lt, _, _, u, v, 4000, rfl, hr, hlt2, by decide, Nat.lt_of_lt_of_le zl.1 (Nat.pow_le_pow_right (by decide) (by decide)), Nat.lt_of_lt_of_le zl.den (Nat.pow_le_pow_right (by decide) (by decide)), zu2, zv2, rfl, _, rfl, iteNS (by rw [e0]) ?_⟩
      exact ⟨sa.trans (sb2.trans (q14.trans sc)), _, _, _, _, _, _, _, rfl⟩
    rintro σ Ha ⟨sa, y8, y9, y10, y11, y12, y13, y14, rfl⟩
    have sAll := s9.trans sa
    have s3a := s35.trans sAll
    exact ⟨_, rfl, _, rfl, _, rfl, _, rfl, p, .ref bA, z, g, bs, ls, rfl, (hN.at.same s3a), dp_same ((s3.trans s3a)) (dp_same fresh_sub hB2), dp_same (s3.trans s3a) (dp_same fresh_sub hL2), by omega, by omega, by omega, okb, Z _⟩
end
theorem all_mk {l : PySem.W.OpenLaw} {w : World} {K : PySem.W.Frag} {h : Heap} {mg : Str → Option Value} {fa f1 f2 f3 f4 f5 f6 f7 f8 f9 f10 f11 f12 f13 f14 f15 f16 f17 f18 f19 f20 f21 f22 f23 f24 f25 f26 f27 f28 f29 C_Data : Addr} (X : K.In h) (G : h.Ns mainGlobals mg) (hfa : mg "law" = some (.ref fa))
    {od1 an1 od2 an2 od3 an3 od4 an4 od5 an5 od6 an6 od7 an7 od8 an8 od9 an9 od10 an10 od11 an11 od12 an12 od13 an13 od14 an14 od15 an15 od16 an16 od17 an17 od18 an18 od19 an19 od20 an20 od21 an21 od22 an22 od23 an23 od24 an24 od25 an25 od26 an26 od27 an27 od28 an28 od29 an29 : Option Addr} {sl1 sl2 sl3 sl4 sl5 sl6 sl7 sl8 sl9 sl10 sl11 sl12 sl13 sl14 sl15 sl16 sl17 sl18 sl19 sl20 sl21 sl22 sl23 sl24 sl25 sl26 sl27 sl28 sl29 : Array (Option Value)} {oc1 kV1 dc1 pm1 ct1 cd1 oc2 kV2 dc2 pm2 ct2 cd2 oc3 kV3 dc3 pm3 ct3 cd3 oc4 kV4 dc4 pm4 ct4 cd4 oc5 kV5 dc5 pm5 ct5 cd5 oc6 kV6 dc6 pm6 ct6 cd6 oc7 kV7 dc7 pm7 ct7 cd7 oc8 kV8 dc8 pm8 ct8 cd8 oc9 kV9 dc9 pm9 ct9 cd9 oc10 kV10 dc10 pm10 ct10 cd10 oc11 kV11 dc11 pm11 ct11 cd11 oc12 kV12 dc12 pm12 ct12 cd12 oc13 kV13 dc13 pm13 ct13 cd13 oc14 kV14 dc14 pm14 ct14 cd14 oc15 kV15 dc15 pm15 ct15 cd15 oc16 kV16 dc16 pm16 ct16 cd16 oc17 kV17 dc17 pm17 ct17 cd17 oc18 kV18 dc18 pm18 ct18 cd18 oc19 kV19 dc19 pm19 ct19 cd19 oc20 kV20 dc20 pm20 ct20 cd20 oc21 kV21 dc21 pm21 ct21 cd21 oc22 kV22 dc22 pm22 ct22 cd22 oc23 kV23 dc23 pm23 ct23 cd23 oc24 kV24 dc24 pm24 ct24 cd24 oc25 kV25 dc25 pm25 ct25 cd25 oc26 kV26 dc26 pm26 ct26 cd26 oc27 kV27 dc27 pm27 ct27 cd27 oc28 kV28 dc28 pm28 ct28 cd28 oc29 kV29 dc29 pm29 ct29 cd29 : Value}
    (aC_Data : PySem.W.nsIn K mainGlobals "Data" = some (some (.ref C_Data)))
    (mk_Data : PySem.W.makesIn K C_Data = true)
    (in_Data : PySem.W.findIn K (.ref C_Data) "__init__" = some (some (.ref f7)))
    (kc_Data : PySem.W.keepIn K (.ref C_Data) = true)
    (pg_Data : PySem.W.plainGet K C_Data Str.empty = true)
    (hd_Data : PySem.W.hasDictIn K C_Data = true)
    (po_Data : PySem.W.plainOver K C_Data = true)
    (sa_Data : PySem.W.findIn K (.ref C_Data) "__setattr__" = some (some (.builtin "object.__setattr__")))
    (nA_Data_goods : PySem.W.findIn K (.ref C_Data) "goods" = some none)
    (nA_Data_buys : PySem.W.findIn K (.ref C_Data) "buys" = some none)
    (nA_Data_links : PySem.W.findIn K (.ref C_Data) "links" = some none)
    (fn7 : PySem.W.isFn K (.ref f7) = true)
    (a1 : PySem.W.nsIn K mainGlobals "_law_row" = some (some (.ref f1)))
    (l1 : K.lookup f1 = some ⟨oc1, od1, .func (PySem.W.fnOf "_law_row" "_law_row" (defArgs s__law_row) (defBody s__law_row) (defScope s__law_row) .none kV1 dc1 pm1 an1 cd1 ct1), sl1⟩)
    (c1 : PySem.W.codeIn K cd1 "_law_row" = true)
    (k1 : PySem.W.keepIn K (.ref f1) = true)
    (a2 : PySem.W.nsIn K mainGlobals "_law_gcd" = some (some (.ref f2)))
    (l2 : K.lookup f2 = some ⟨oc2, od2, .func (PySem.W.fnOf "_law_gcd" "_law_gcd" (defArgs s__law_gcd) (defBody s__law_gcd) (defScope s__law_gcd) .none kV2 dc2 pm2 an2 cd2 ct2), sl2⟩)
    (c2 : PySem.W.codeIn K cd2 "_law_gcd" = true)
    (k2 : PySem.W.keepIn K (.ref f2) = true)
    (a3 : PySem.W.nsIn K mainGlobals "_law_lowest" = some (some (.ref f3)))
    (l3 : K.lookup f3 = some ⟨oc3, od3, .func (PySem.W.fnOf "_law_lowest" "_law_lowest" (defArgs s__law_lowest) (defBody s__law_lowest) (defScope s__law_lowest) .none kV3 dc3 pm3 an3 cd3 ct3), sl3⟩)
    (c3 : PySem.W.codeIn K cd3 "_law_lowest" = true)
    (k3 : PySem.W.keepIn K (.ref f3) = true)
    (a4 : PySem.W.nsIn K mainGlobals "_law_long" = some (some (.ref f4)))
    (l4 : K.lookup f4 = some ⟨oc4, od4, .func (PySem.W.fnOf "_law_long" "_law_long" (defArgs s__law_long) (defBody s__law_long) (defScope s__law_long) .none kV4 dc4 pm4 an4 cd4 ct4), sl4⟩)
    (c4 : PySem.W.codeIn K cd4 "_law_long" = true)
    (k4 : PySem.W.keepIn K (.ref f4) = true)
    (a5 : PySem.W.nsIn K mainGlobals "_law_purchase" = some (some (.ref f5)))
    (l5 : K.lookup f5 = some ⟨oc5, od5, .func (PySem.W.fnOf "_law_purchase" "_law_purchase" (defArgs s__law_purchase) (defBody s__law_purchase) (defScope s__law_purchase) .none kV5 dc5 pm5 an5 cd5 ct5), sl5⟩)
    (c5 : PySem.W.codeIn K cd5 "_law_purchase" = true)
    (k5 : PySem.W.keepIn K (.ref f5) = true)
    (a6 : PySem.W.nsIn K mainGlobals "_law_data" = some (some (.ref f6)))
    (l6 : K.lookup f6 = some ⟨oc6, od6, .func (PySem.W.fnOf "_law_data" "_law_data" (defArgs s__law_data) (defBody s__law_data) (defScope s__law_data) .none kV6 dc6 pm6 an6 cd6 ct6), sl6⟩)
    (c6 : PySem.W.codeIn K cd6 "_law_data" = true)
    (k6 : PySem.W.keepIn K (.ref f6) = true)
    (l7 : K.lookup f7 = some ⟨oc7, od7, .func (PySem.W.fnOf "__init__" "Data.__init__" (defArgs s_Data_init) (defBody s_Data_init) (defScope s_Data_init) .none kV7 dc7 pm7 an7 cd7 ct7), sl7⟩)
    (c7 : PySem.W.codeIn K cd7 "Data.__init__" = true)
    (k7 : PySem.W.keepIn K (.ref f7) = true)
    (a8 : PySem.W.nsIn K mainGlobals "_law_made" = some (some (.ref f8)))
    (l8 : K.lookup f8 = some ⟨oc8, od8, .func (PySem.W.fnOf "_law_made" "_law_made" (defArgs s__law_made) (defBody s__law_made) (defScope s__law_made) .none kV8 dc8 pm8 an8 cd8 ct8), sl8⟩)
    (c8 : PySem.W.codeIn K cd8 "_law_made" = true)
    (k8 : PySem.W.keepIn K (.ref f8) = true)
    (a9 : PySem.W.nsIn K mainGlobals "_law_is_integer" = some (some (.ref f9)))
    (l9 : K.lookup f9 = some ⟨oc9, od9, .func (PySem.W.fnOf "_law_is_integer" "_law_is_integer" (defArgs s__law_is_integer) (defBody s__law_is_integer) (defScope s__law_is_integer) .none kV9 dc9 pm9 an9 cd9 ct9), sl9⟩)
    (c9 : PySem.W.codeIn K cd9 "_law_is_integer" = true)
    (k9 : PySem.W.keepIn K (.ref f9) = true)
    (a10 : PySem.W.nsIn K mainGlobals "_law_same" = some (some (.ref f10)))
    (l10 : K.lookup f10 = some ⟨oc10, od10, .func (PySem.W.fnOf "_law_same" "_law_same" (defArgs s__law_same) (defBody s__law_same) (defScope s__law_same) .none kV10 dc10 pm10 an10 cd10 ct10), sl10⟩)
    (c10 : PySem.W.codeIn K cd10 "_law_same" = true)
    (k10 : PySem.W.keepIn K (.ref f10) = true)
    (a11 : PySem.W.nsIn K mainGlobals "_law_unchanged" = some (some (.ref f11)))
    (l11 : K.lookup f11 = some ⟨oc11, od11, .func (PySem.W.fnOf "_law_unchanged" "_law_unchanged" (defArgs s__law_unchanged) (defBody s__law_unchanged) (defScope s__law_unchanged) .none kV11 dc11 pm11 an11 cd11 ct11), sl11⟩)
    (c11 : PySem.W.codeIn K cd11 "_law_unchanged" = true)
    (k11 : PySem.W.keepIn K (.ref f11) = true)
    (a12 : PySem.W.nsIn K mainGlobals "_law_drawn" = some (some (.ref f12)))
    (l12 : K.lookup f12 = some ⟨oc12, od12, .func (PySem.W.fnOf "_law_drawn" "_law_drawn" (defArgs s__law_drawn) (defBody s__law_drawn) (defScope s__law_drawn) .none kV12 dc12 pm12 an12 cd12 ct12), sl12⟩)
    (c12 : PySem.W.codeIn K cd12 "_law_drawn" = true)
    (k12 : PySem.W.keepIn K (.ref f12) = true)
    (a13 : PySem.W.nsIn K mainGlobals "ratio" = some (some (.ref f13)))
    (l13 : K.lookup f13 = some ⟨oc13, od13, .func (PySem.W.fnOf "ratio" "ratio" (defArgs s_ratio) (defBody s_ratio) (defScope s_ratio) .none kV13 dc13 pm13 an13 cd13 ct13), sl13⟩)
    (c13 : PySem.W.codeIn K cd13 "ratio" = true)
    (k13 : PySem.W.keepIn K (.ref f13) = true)
    (a14 : PySem.W.nsIn K mainGlobals "sub" = some (some (.ref f14)))
    (l14 : K.lookup f14 = some ⟨oc14, od14, .func (PySem.W.fnOf "sub" "sub" (defArgs s_sub) (defBody s_sub) (defScope s_sub) .none kV14 dc14 pm14 an14 cd14 ct14), sl14⟩)
    (c14 : PySem.W.codeIn K cd14 "sub" = true)
    (k14 : PySem.W.keepIn K (.ref f14) = true)
    (a15 : PySem.W.nsIn K mainGlobals "add" = some (some (.ref f15)))
    (l15 : K.lookup f15 = some ⟨oc15, od15, .func (PySem.W.fnOf "add" "add" (defArgs s_add) (defBody s_add) (defScope s_add) .none kV15 dc15 pm15 an15 cd15 ct15), sl15⟩)
    (c15 : PySem.W.codeIn K cd15 "add" = true)
    (k15 : PySem.W.keepIn K (.ref f15) = true)
    (a16 : PySem.W.nsIn K mainGlobals "mul" = some (some (.ref f16)))
    (l16 : K.lookup f16 = some ⟨oc16, od16, .func (PySem.W.fnOf "mul" "mul" (defArgs s_mul) (defBody s_mul) (defScope s_mul) .none kV16 dc16 pm16 an16 cd16 ct16), sl16⟩)
    (c16 : PySem.W.codeIn K cd16 "mul" = true)
    (k16 : PySem.W.keepIn K (.ref f16) = true)
    (a17 : PySem.W.nsIn K mainGlobals "dot" = some (some (.ref f17)))
    (l17 : K.lookup f17 = some ⟨oc17, od17, .func (PySem.W.fnOf "dot" "dot" (defArgs s_dot) (defBody s_dot) (defScope s_dot) .none kV17 dc17 pm17 an17 cd17 ct17), sl17⟩)
    (c17 : PySem.W.codeIn K cd17 "dot" = true)
    (k17 : PySem.W.keepIn K (.ref f17) = true)
    (a18 : PySem.W.nsIn K mainGlobals "cost" = some (some (.ref f18)))
    (l18 : K.lookup f18 = some ⟨oc18, od18, .func (PySem.W.fnOf "cost" "cost" (defArgs s_cost) (defBody s_cost) (defScope s_cost) .none kV18 dc18 pm18 an18 cd18 ct18), sl18⟩)
    (c18 : PySem.W.codeIn K cd18 "cost" = true)
    (k18 : PySem.W.keepIn K (.ref f18) = true)
    (a19 : PySem.W.nsIn K mainGlobals "spent" = some (some (.ref f19)))
    (l19 : K.lookup f19 = some ⟨oc19, od19, .func (PySem.W.fnOf "spent" "spent" (defArgs s_spent) (defBody s_spent) (defScope s_spent) .none kV19 dc19 pm19 an19 cd19 ct19), sl19⟩)
    (c19 : PySem.W.codeIn K cd19 "spent" = true)
    (k19 : PySem.W.keepIn K (.ref f19) = true)
    (a20 : PySem.W.nsIn K mainGlobals "plane" = some (some (.ref f20)))
    (l20 : K.lookup f20 = some ⟨oc20, od20, .func (PySem.W.fnOf "plane" "plane" (defArgs s_plane) (defBody s_plane) (defScope s_plane) .none kV20 dc20 pm20 an20 cd20 ct20), sl20⟩)
    (c20 : PySem.W.codeIn K cd20 "plane" = true)
    (k20 : PySem.W.keepIn K (.ref f20) = true)
    (a21 : PySem.W.nsIn K mainGlobals "less" = some (some (.ref f21)))
    (l21 : K.lookup f21 = some ⟨oc21, od21, .func (PySem.W.fnOf "less" "less" (defArgs s_less) (defBody s_less) (defScope s_less) .none kV21 dc21 pm21 an21 cd21 ct21), sl21⟩)
    (c21 : PySem.W.codeIn K cd21 "less" = true)
    (k21 : PySem.W.keepIn K (.ref f21) = true)
    (a22 : PySem.W.nsIn K mainGlobals "worth" = some (some (.ref f22)))
    (l22 : K.lookup f22 = some ⟨oc22, od22, .func (PySem.W.fnOf "worth" "worth" (defArgs s_worth) (defBody s_worth) (defScope s_worth) .none kV22 dc22 pm22 an22 cd22 ct22), sl22⟩)
    (c22 : PySem.W.codeIn K cd22 "worth" = true)
    (k22 : PySem.W.keepIn K (.ref f22) = true)
    (a23 : PySem.W.nsIn K mainGlobals "_law_add" = some (some (.ref f23)))
    (l23 : K.lookup f23 = some ⟨oc23, od23, .func (PySem.W.fnOf "_law_add" "_law_add" (defArgs s__law_add) (defBody s__law_add) (defScope s__law_add) .none kV23 dc23 pm23 an23 cd23 ct23), sl23⟩)
    (c23 : PySem.W.codeIn K cd23 "_law_add" = true)
    (k23 : PySem.W.keepIn K (.ref f23) = true)
    (a24 : PySem.W.nsIn K mainGlobals "_law_mul" = some (some (.ref f24)))
    (l24 : K.lookup f24 = some ⟨oc24, od24, .func (PySem.W.fnOf "_law_mul" "_law_mul" (defArgs s__law_mul) (defBody s__law_mul) (defScope s__law_mul) .none kV24 dc24 pm24 an24 cd24 ct24), sl24⟩)
    (c24 : PySem.W.codeIn K cd24 "_law_mul" = true)
    (k24 : PySem.W.keepIn K (.ref f24) = true)
    (a25 : PySem.W.nsIn K mainGlobals "_law_is_fraction" = some (some (.ref f25)))
    (l25 : K.lookup f25 = some ⟨oc25, od25, .func (PySem.W.fnOf "_law_is_fraction" "_law_is_fraction" (defArgs s__law_is_fraction) (defBody s__law_is_fraction) (defScope s__law_is_fraction) .none kV25 dc25 pm25 an25 cd25 ct25), sl25⟩)
    (c25 : PySem.W.codeIn K cd25 "_law_is_fraction" = true)
    (k25 : PySem.W.keepIn K (.ref f25) = true)
    (a26 : PySem.W.nsIn K mainGlobals "_law_over" = some (some (.ref f26)))
    (l26 : K.lookup f26 = some ⟨oc26, od26, .func (PySem.W.fnOf "_law_over" "_law_over" (defArgs s__law_over) (defBody s__law_over) (defScope s__law_over) .none kV26 dc26 pm26 an26 cd26 ct26), sl26⟩)
    (c26 : PySem.W.codeIn K cd26 "_law_over" = true)
    (k26 : PySem.W.keepIn K (.ref f26) = true)
    (a27 : PySem.W.nsIn K mainGlobals "_law_dot" = some (some (.ref f27)))
    (l27 : K.lookup f27 = some ⟨oc27, od27, .func (PySem.W.fnOf "_law_dot" "_law_dot" (defArgs s__law_dot) (defBody s__law_dot) (defScope s__law_dot) .none kV27 dc27 pm27 an27 cd27 ct27), sl27⟩)
    (c27 : PySem.W.codeIn K cd27 "_law_dot" = true)
    (k27 : PySem.W.keepIn K (.ref f27) = true)
    (a28 : PySem.W.nsIn K mainGlobals "_law_gap" = some (some (.ref f28)))
    (l28 : K.lookup f28 = some ⟨oc28, od28, .func (PySem.W.fnOf "_law_gap" "_law_gap" (defArgs s__law_gap) (defBody s__law_gap) (defScope s__law_gap) .none kV28 dc28 pm28 an28 cd28 ct28), sl28⟩)
    (c28 : PySem.W.codeIn K cd28 "_law_gap" = true)
    (k28 : PySem.W.keepIn K (.ref f28) = true)
    (a29 : PySem.W.nsIn K mainGlobals "law" = some (some (.ref f29)))
    (l29 : K.lookup f29 = some ⟨oc29, od29, .func (PySem.W.fnOf "law" "law" (defArgs s_law) (defBody s_law) (defScope s_law) .none kV29 dc29 pm29 an29 cd29 ct29), sl29⟩)
    (c29 : PySem.W.codeIn K cd29 "law" = true)
    (k29 : PySem.W.keepIn K (.ref f29) = true)
    (z_range : PySem.W.nsIn K mainGlobals "range" = some none)
    (z_len : PySem.W.nsIn K mainGlobals "len" = some none)
    (z_int : PySem.W.nsIn K mainGlobals "int" = some none)
    (z_abs : PySem.W.nsIn K mainGlobals "abs" = some none)
    (z_max : PySem.W.nsIn K mainGlobals "max" = some none)
    (z_list : PySem.W.nsIn K mainGlobals "list" = some none)
    (z_isinstance : PySem.W.nsIn K mainGlobals "isinstance" = some none)
    (z_bool : PySem.W.nsIn K mainGlobals "bool" = some none)
    (z_tuple : PySem.W.nsIn K mainGlobals "tuple" = some none)
    (z_str : PySem.W.nsIn K mainGlobals "str" = some none)
    (z_zip : PySem.W.nsIn K mainGlobals "zip" = some none)
    (z_gcd : PySem.W.nsIn K mainGlobals "gcd" = some (some (.builtin "math.gcd")))
    : ∃ fd : FuncData, (∀ (s : Shared) (v : Value), BindsTo s fd ⟨[v], []⟩ [("_law_script", v)]) ∧ ∀ base : Heap, K.In base → base.Ns mainGlobals mg → FnOk l.prog w K mg base CX0 9 fa fd ["_law_script"] (sp_law K) := by
  have e := hfa.symm.trans (PySem.W.mg_of X G a29)
  cases e
  have m_range : mg "range" = none := PySem.W.mg_none_of X G z_range
  have m_len : mg "len" = none := PySem.W.mg_none_of X G z_len
  have m_int : mg "int" = none := PySem.W.mg_none_of X G z_int
  have m_abs : mg "abs" = none := PySem.W.mg_none_of X G z_abs
  have m_max : mg "max" = none := PySem.W.mg_none_of X G z_max
  have m_list : mg "list" = none := PySem.W.mg_none_of X G z_list
  have m_isinstance : mg "isinstance" = none := PySem.W.mg_none_of X G z_isinstance
  have m_bool : mg "bool" = none := PySem.W.mg_none_of X G z_bool
  have m_tuple : mg "tuple" = none := PySem.W.mg_none_of X G z_tuple
  have m_str : mg "str" = none := PySem.W.mg_none_of X G z_str
  have m_zip : mg "zip" = none := PySem.W.mg_none_of X G z_zip
  have m_gcd : mg "gcd" = some (.builtin "math.gcd") := PySem.W.mg_of X G z_gcd
  have c_Data : mg "Data" = some (.ref C_Data) := PySem.W.mg_of X G aC_Data
  have T_Data : Cls K C_Data := ⟨pg_Data, hd_Data, po_Data, sa_Data⟩
  have na_Data_goods : NoAttr K C_Data "goods" := nA_Data_goods
  have na_Data_buys : NoAttr K C_Data "buys" := nA_Data_buys
  have na_Data_links : NoAttr K C_Data "links" := nA_Data_links
  refine ⟨PySem.W.fnOf "law" "law" (defArgs s_law) (defBody s_law) (defScope s_law) .none kV29 dc29 pm29 an29 cd29 ct29, fun s v => .of_eq rfl, fun base _ _ => ?_⟩
  have F1 := fun_mk (st := s__law_row) l1 c1 k1
  have D__law_row : Dn l.prog w K mg base CX0 1 "_law_row" (sp__law_row K) := ⟨_, _, _, ok__law_row F1 m_range m_len m_int, PySem.W.mg_of X G a1, F1.kp, F1.binds (ps := ["_law_script", "_law_place", "_law_many"]) fun _ _ _ _ _ _ us hl => match us, hl with | [_, _, _], _ => rfl⟩
  have F2 := fun_mk (st := s__law_gcd) l2 c2 k2
  have D__law_gcd : Dn l.prog w K mg base CX0 1 "_law_gcd" (sp__law_gcd K) := ⟨_, _, _, ok__law_gcd F2 m_range m_int, PySem.W.mg_of X G a2, F2.kp, F2.binds (ps := ["_law_a", "_law_b"]) fun _ _ _ _ _ _ us hl => match us, hl with | [_, _], _ => rfl⟩
  have F3 := fun_mk (st := s__law_lowest) l3 c3 k3
  have D__law_lowest : Dn l.prog w K mg base CX0 2 "_law_lowest" (sp__law_lowest K) := ⟨_, _, _, ok__law_lowest F3 D__law_gcd m_abs, PySem.W.mg_of X G a3, F3.kp, F3.binds (ps := ["_law_p", "_law_q"]) fun _ _ _ _ _ _ us hl => match us, hl with | [_, _], _ => rfl⟩
  have F4 := fun_mk (st := s__law_long) l4 c4 k4
  have D__law_long : Dn l.prog w K mg base CX0 1 "_law_long" (sp__law_long K) := ⟨_, _, _, ok__law_long F4 m_range, PySem.W.mg_of X G a4, F4.kp, F4.binds (ps := ["_law_row_here", "_law_start", "_law_many"]) fun _ _ _ _ _ _ us hl => match us, hl with | [_, _, _], _ => rfl⟩
  have F5 := fun_mk (st := s__law_purchase) l5 c5 k5
  have D__law_purchase : Dn l.prog w K mg base CX0 3 "_law_purchase" (sp__law_purchase K) := ⟨_, _, _, ok__law_purchase F5 D__law_lowest D__law_long m_range m_max m_int, PySem.W.mg_of X G a5, F5.kp, F5.binds (ps := ["_law_row_here", "_law_shape", "_law_goods", "_law_kind"]) fun _ _ _ _ _ _ us hl => match us, hl with | [_, _, _, _], _ => rfl⟩
  have F6 := fun_mk (st := s__law_data) l6 c6 k6
  have D__law_data : Dn l.prog w K mg base CX0 4 "_law_data" (sp__law_data K) := ⟨_, _, _, ok__law_data F6 D__law_row D__law_purchase m_range m_int, PySem.W.mg_of X G a6, F6.kp, F6.binds (ps := ["_law_script", "_law_place", "_law_most", "_law_linked"]) fun _ _ _ _ _ _ us hl => match us, hl with | [_, _, _, _], _ => rfl⟩
  have F7 := fun_mk (st := s_Data_init) l7 c7 k7
  have M_Data : DMk l.prog w K mg base CX0 1 "Data" C_Data (sp_Data_init K C_Data) := ⟨_, _, _, ⟨mk_Data, in_Data, fn7, kc_Data⟩, ok_Data_init F7 m_list T_Data na_Data_goods na_Data_buys na_Data_links, PySem.W.mg_of X G aC_Data, F7.binds (ps := ["self", "goods", "buys", "links"]) fun _ _ _ _ _ _ us hl => match us, hl with | [_, _, _, _], _ => rfl⟩
  have F8 := fun_mk (st := s__law_made) l8 c8 k8
  have D__law_made : Dn l.prog w K mg base CX0 3 "_law_made" (sp__law_made K) := ⟨_, _, _, ok__law_made F8 m_list M_Data, PySem.W.mg_of X G a8, F8.kp, F8.binds (ps := ["_law_goods", "_law_buys", "_law_links"]) fun _ _ _ _ _ _ us hl => match us, hl with | [_, _, _], _ => rfl⟩
  have F9 := fun_mk (st := s__law_is_integer) l9 c9 k9
  have D__law_is_integer : Dn l.prog w K mg base CX0 1 "_law_is_integer" (sp__law_is_integer K) := ⟨_, _, _, ok__law_is_integer F9 m_isinstance m_int m_bool, PySem.W.mg_of X G a9, F9.kp, F9.binds (ps := ["_law_x"]) fun _ _ _ _ _ _ us hl => match us, hl with | [_], _ => rfl⟩
  have F10 := fun_mk (st := s__law_same) l10 c10 k10
  have R__law_same : ∀ n, Dn l.prog w K mg base CX0 (1 + n) "_law_same" (sp__law_same n K) := by
    intro n
    induction n with
    | zero => exact ⟨_, _, _, fnok_no (fun vs H Q E h => by obtain ⟨_, _, _, _, _, _, h, _⟩ := h; exact False.elim h), PySem.W.mg_of X G a10, F10.kp, F10.binds (ps := ["_law_actual", "_law_due"]) fun _ _ _ _ _ _ us hl => match us, hl with | [_, _], _ => rfl⟩
    | succ n ih => exact ⟨_, _, _, ok__law_same F10 D__law_is_integer ih m_isinstance m_bool m_int m_list m_tuple m_range m_str m_len, PySem.W.mg_of X G a10, F10.kp, F10.binds (ps := ["_law_actual", "_law_due"]) fun _ _ _ _ _ _ us hl => match us, hl with | [_, _], _ => rfl⟩
  have D__law_same := R__law_same 6
  have F11 := fun_mk (st := s__law_unchanged) l11 c11 k11
  have D__law_unchanged : Dn l.prog w K mg base CX0 8 "_law_unchanged" (sp__law_unchanged K) := ⟨_, _, _, ok__law_unchanged F11 D__law_same, PySem.W.mg_of X G a11, F11.kp, F11.binds (ps := ["_law_data_here", "_law_goods", "_law_buys", "_law_links"]) fun _ _ _ _ _ _ us hl => match us, hl with | [_, _, _, _], _ => rfl⟩
  have F12 := fun_mk (st := s__law_drawn) l12 c12 k12
  have D__law_drawn : Dn l.prog w K mg base CX0 3 "_law_drawn" (sp__law_drawn K) := ⟨_, _, _, ok__law_drawn F12 D__law_long D__law_lowest m_max m_int, PySem.W.mg_of X G a12, F12.kp, F12.binds (ps := ["_law_row_here"]) fun _ _ _ _ _ _ us hl => match us, hl with | [_], _ => rfl⟩
  have F13 := fun_mk (st := s_ratio) l13 c13 k13
  have D_ratio : Dn l.prog w K mg base CX0 1 "ratio" (sp_ratio K) := ⟨_, _, _, ok_ratio F13 m_gcd, PySem.W.mg_of X G a13, F13.kp, F13.binds (ps := ["p", "q"]) fun _ _ _ _ _ _ us hl => match us, hl with | [_, _], _ => rfl⟩
  have F14 := fun_mk (st := s_sub) l14 c14 k14
  have D_sub : Dn l.prog w K mg base CX0 2 "sub" (sp_sub K) := ⟨_, _, _, ok_sub F14 D_ratio, PySem.W.mg_of X G a14, F14.kp, F14.binds (ps := ["a", "b"]) fun _ _ _ _ _ _ us hl => match us, hl with | [_, _], _ => rfl⟩
  have F15 := fun_mk (st := s_add) l15 c15 k15
  have D_add : Dn l.prog w K mg base CX0 2 "add" (sp_add K) := ⟨_, _, _, ok_add F15 D_ratio, PySem.W.mg_of X G a15, F15.kp, F15.binds (ps := ["a", "b"]) fun _ _ _ _ _ _ us hl => match us, hl with | [_, _], _ => rfl⟩
  have F16 := fun_mk (st := s_mul) l16 c16 k16
  have D_mul : Dn l.prog w K mg base CX0 2 "mul" (sp_mul K) := ⟨_, _, _, ok_mul F16 D_ratio, PySem.W.mg_of X G a16, F16.kp, F16.binds (ps := ["a", "b"]) fun _ _ _ _ _ _ us hl => match us, hl with | [_, _], _ => rfl⟩
  have F17 := fun_mk (st := s_dot) l17 c17 k17
  have D_dot : Dn l.prog w K mg base CX0 3 "dot" (sp_dot K) := ⟨_, _, _, ok_dot F17 D_add D_mul m_zip, PySem.W.mg_of X G a17, F17.kp, F17.binds (ps := ["a", "b"]) fun _ _ _ _ _ _ us hl => match us, hl with | [_, _], _ => rfl⟩
  have F18 := fun_mk (st := s_cost) l18 c18 k18
  have D_cost : Dn l.prog w K mg base CX0 4 "cost" (sp_cost K) := ⟨_, _, _, ok_cost F18 D_dot, PySem.W.mg_of X G a18, F18.kp, F18.binds (ps := ["prices", "amounts"]) fun _ _ _ _ _ _ us hl => match us, hl with | [_, _], _ => rfl⟩
  have F19 := fun_mk (st := s_spent) l19 c19 k19
  have D_spent : Dn l.prog w K mg base CX0 5 "spent" (sp_spent K) := ⟨_, _, _, ok_spent F19 D_cost, PySem.W.mg_of X G a19, F19.kp, F19.binds (ps := ["data", "i"]) fun _ _ _ _ _ _ us hl => match us, hl with | [_, _], _ => rfl⟩
  have F20 := fun_mk (st := s_plane) l20 c20 k20
  have D_plane : Dn l.prog w K mg base CX0 6 "plane" (sp_plane K) := ⟨_, _, _, ok_plane F20 D_sub D_add D_cost D_spent D_mul, PySem.W.mg_of X G a20, F20.kp, F20.binds (ps := ["data", "taste", "i", "basket"]) fun _ _ _ _ _ _ us hl => match us, hl with | [_, _, _, _], _ => rfl⟩
  have F21 := fun_mk (st := s_less) l21 c21 k21
  have D_less : Dn l.prog w K mg base CX0 1 "less" (sp_less K) := ⟨_, _, _, ok_less F21, PySem.W.mg_of X G a21, F21.kp, F21.binds (ps := ["a", "b"]) fun _ _ _ _ _ _ us hl => match us, hl with | [_, _], _ => rfl⟩
  have F22 := fun_mk (st := s_worth) l22 c22 k22
  have D_worth : Dn l.prog w K mg base CX0 7 "worth" (sp_worth K) := ⟨_, _, _, ok_worth F22 D_plane D_less m_range m_len, PySem.W.mg_of X G a22, F22.kp, F22.binds (ps := ["data", "taste", "basket"]) fun _ _ _ _ _ _ us hl => match us, hl with | [_, _, _], _ => rfl⟩
  have F23 := fun_mk (st := s__law_add) l23 c23 k23
  have D__law_add : Dn l.prog w K mg base CX0 1 "_law_add" (sp__law_add K) := ⟨_, _, _, ok__law_add F23, PySem.W.mg_of X G a23, F23.kp, F23.binds (ps := ["_law_a", "_law_b"]) fun _ _ _ _ _ _ us hl => match us, hl with | [_, _], _ => rfl⟩
  have F24 := fun_mk (st := s__law_mul) l24 c24 k24
  have D__law_mul : Dn l.prog w K mg base CX0 1 "_law_mul" (sp__law_mul K) := ⟨_, _, _, ok__law_mul F24, PySem.W.mg_of X G a24, F24.kp, F24.binds (ps := ["_law_a", "_law_b"]) fun _ _ _ _ _ _ us hl => match us, hl with | [_, _], _ => rfl⟩
  have F25 := fun_mk (st := s__law_is_fraction) l25 c25 k25
  have D__law_is_fraction : Dn l.prog w K mg base CX0 2 "_law_is_fraction" (sp__law_is_fraction K) := ⟨_, _, _, ok__law_is_fraction F25 D__law_gcd D__law_is_integer m_isinstance m_tuple m_len m_abs, PySem.W.mg_of X G a25, F25.kp, F25.binds (ps := ["_law_x"]) fun _ _ _ _ _ _ us hl => match us, hl with | [_], _ => rfl⟩
  have F26 := fun_mk (st := s__law_over) l26 c26 k26
  have D__law_over : Dn l.prog w K mg base CX0 1 "_law_over" (sp__law_over K) := ⟨_, _, _, ok__law_over F26, PySem.W.mg_of X G a26, F26.kp, F26.binds (ps := ["_law_a", "_law_b"]) fun _ _ _ _ _ _ us hl => match us, hl with | [_, _], _ => rfl⟩
  have F27 := fun_mk (st := s__law_dot) l27 c27 k27
  have D__law_dot : Dn l.prog w K mg base CX0 1 "_law_dot" (sp__law_dot K) := ⟨_, _, _, ok__law_dot F27 m_range m_len, PySem.W.mg_of X G a27, F27.kp, F27.binds (ps := ["_law_a", "_law_b"]) fun _ _ _ _ _ _ us hl => match us, hl with | [_, _], _ => rfl⟩
  have F28 := fun_mk (st := s__law_gap) l28 c28 k28
  have D__law_gap : Dn l.prog w K mg base CX0 2 "_law_gap" (sp__law_gap K) := ⟨_, _, _, ok__law_gap F28 D__law_dot, PySem.W.mg_of X G a28, F28.kp, F28.binds (ps := ["_law_buys", "_law_i", "_law_basket"]) fun _ _ _ _ _ _ us hl => match us, hl with | [_, _, _], _ => rfl⟩
  have F29 := fun_mk (st := s_law) l29 c29 k29
  exact ok_law F29 D__law_data D__law_made D__law_unchanged D__law_drawn D__law_row D_worth D__law_add D__law_lowest D__law_mul D__law_is_fraction D__law_over D__law_gap m_range m_len m_list m_int
end BB
open PySem PySem.W PyProof.Rows
set_option maxHeartbeats 0 in
theorem PySem.Challenge.cw_buybook_k20_worth_of_a_basket_holds : PySem.Challenge.rw_buybook_k20_worth_of_a_basket.Holds := by
  w_on; o_law; k_head; (case hw => w_witness2)
  k_fill
  refine L2.walk_of (l := PySem.Challenge.rw_buybook_k20_worth_of_a_basket) (n := 63) (k := 9) (x := "_law_script") (CX := fun _ => L2.CX0) (sp := fun w => BB.sp_law _) rfl (by decide) rfl ⟨rfl, by decide, by decide⟩ (fun w h Y => PySem.W.kIn_of Y) ?F (fun _ _ a ns hl _ hS => ⟨a, ns, rfl, hS, hl, fun _ => rfl⟩) (fun _ _ _ _ _ h => h)
  case F =>
    intro w mg fa h KX G hmg
    refine' BB.all_mk KX G hmg ?aC_Data ?mk_Data ?in_Data ?kc_Data ?pg_Data ?hd_Data ?po_Data ?sa_Data ?nA_Data_goods ?nA_Data_buys ?nA_Data_links ?fn7 ?a1 ?l1 ?c1 ?k1 ?a2 ?l2 ?c2 ?k2 ?a3 ?l3 ?c3 ?k3 ?a4 ?l4 ?c4 ?k4 ?a5 ?l5 ?c5 ?k5 ?a6 ?l6 ?c6 ?k6 ?l7 ?c7 ?k7 ?a8 ?l8 ?c8 ?k8 ?a9 ?l9 ?c9 ?k9 ?a10 ?l10 ?c10 ?k10 ?a11 ?l11 ?c11 ?k11 ?a12 ?l12 ?c12 ?k12 ?a13 ?l13 ?c13 ?k13 ?a14 ?l14 ?c14 ?k14 ?a15 ?l15 ?c15 ?k15 ?a16 ?l16 ?c16 ?k16 ?a17 ?l17 ?c17 ?k17 ?a18 ?l18 ?c18 ?k18 ?a19 ?l19 ?c19 ?k19 ?a20 ?l20 ?c20 ?k20 ?a21 ?l21 ?c21 ?k21 ?a22 ?l22 ?c22 ?k22 ?a23 ?l23 ?c23 ?k23 ?a24 ?l24 ?c24 ?k24 ?a25 ?l25 ?c25 ?k25 ?a26 ?l26 ?c26 ?k26 ?a27 ?l27 ?c27 ?k27 ?a28 ?l28 ?c28 ?k28 ?a29 ?l29 ?c29 ?k29 ?z_range ?z_len ?z_int ?z_abs ?z_max ?z_list ?z_isinstance ?z_bool ?z_tuple ?z_str ?z_zip ?z_gcd
    (case aC_Data => k_is); (case mk_Data => k_is); (case in_Data => k_is); (case kc_Data => k_is); (case pg_Data => k_is); (case hd_Data => k_is); (case po_Data => k_is); (case sa_Data => k_is); (case nA_Data_goods => k_is); (case nA_Data_buys => k_is); (case nA_Data_links => k_is); (case fn7 => k_is); (case a1 => k_is); (case l1 => k_is); (case c1 => k_is); (case k1 => k_is); (case a2 => k_is); (case l2 => k_is); (case c2 => k_is); (case k2 => k_is); (case a3 => k_is); (case l3 => k_is); (case c3 => k_is); (case k3 => k_is); (case a4 => k_is); (case l4 => k_is); (case c4 => k_is); (case k4 => k_is); (case a5 => k_is); (case l5 => k_is); (case c5 => k_is); (case k5 => k_is); (case a6 => k_is); (case l6 => k_is); (case c6 => k_is); (case k6 => k_is); (case l7 => k_is); (case c7 => k_is); (case k7 => k_is); (case a8 => k_is); (case l8 => k_is); (case c8 => k_is); (case k8 => k_is); (case a9 => k_is); (case l9 => k_is); (case c9 => k_is); (case k9 => k_is); (case a10 => k_is); (case l10 => k_is); (case c10 => k_is); (case k10 => k_is); (case a11 => k_is); (case l11 => k_is); (case c11 => k_is); (case k11 => k_is); (case a12 => k_is); (case l12 => k_is); (case c12 => k_is); (case k12 => k_is); (case a13 => k_is); (case l13 => k_is); (case c13 => k_is); (case k13 => k_is); (case a14 => k_is); (case l14 => k_is); (case c14 => k_is); (case k14 => k_is); (case a15 => k_is); (case l15 => k_is); (case c15 => k_is); (case k15 => k_is); (case a16 => k_is); (case l16 => k_is); (case c16 => k_is); (case k16 => k_is); (case a17 => k_is); (case l17 => k_is); (case c17 => k_is); (case k17 => k_is); (case a18 => k_is); (case l18 => k_is); (case c18 => k_is); (case k18 => k_is); (case a19 => k_is); (case l19 => k_is); (case c19 => k_is); (case k19 => k_is); (case a20 => k_is); (case l20 => k_is); (case c20 => k_is); (case k20 => k_is); (case a21 => k_is); (case l21 => k_is); (case c21 => k_is); (case k21 => k_is); (case a22 => k_is); (case l22 => k_is); (case c22 => k_is); (case k22 => k_is); (case a23 => k_is); (case l23 => k_is); (case c23 => k_is); (case k23 => k_is); (case a24 => k_is); (case l24 => k_is); (case c24 => k_is); (case k24 => k_is); (case a25 => k_is); (case l25 => k_is); (case c25 => k_is); (case k25 => k_is); (case a26 => k_is); (case l26 => k_is); (case c26 => k_is); (case k26 => k_is); (case a27 => k_is); (case l27 => k_is); (case c27 => k_is); (case k27 => k_is); (case a28 => k_is); (case l28 => k_is); (case c28 => k_is); (case k28 => k_is); (case a29 => k_is); (case l29 => k_is); (case c29 => k_is); (case k29 => k_is); (case z_range => k_is); (case z_len => k_is); (case z_int => k_is); (case z_abs => k_is); (case z_max => k_is); (case z_list => k_is); (case z_isinstance => k_is); (case z_bool => k_is); (case z_tuple => k_is); (case z_str => k_is); (case z_zip => k_is); (case z_gcd => k_is)
