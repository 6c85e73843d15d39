import PyProof.Rows.All
import Wide.All
import OpenK.AllK
import Wide.FinOn
import PySem.Challenge.RW_buybook_k17_chains_judged
import HandS.Conv
import HandS.ForMost
import HandS.Gcd
import HandS.Wide
import HandS.WideBits
import HandS.IsInst
import HandS.Codes
import HandS.Zip
import HandS.Style
import HandS.NoneIn
import HandS.AnyAll
import HandS.Nested
import HandS.Iter
import HandS.EndTab
import KE.KNest
set_option Elab.async false
set_option linter.all false
set_option maxRecDepth 100000
set_option maxHeartbeats 4000000
set_option exponentiation.threshold 300
/-! Num: fractions as rational numbers; Euclid's turns. -/
namespace BB

theorem num_mul_eq {p q : Int} (hq : q ≠ 0) : (Rat.divInt p q).num * q = p * ((Rat.divInt p q).den : Int) := by
  have h := Rat.num_divInt_den (Rat.divInt p q)
  have hd : ((Rat.divInt p q).den : Int) ≠ 0 := by
    have := (Rat.divInt p q).den_nz
    omega
  exact (Rat.divInt_eq_divInt_iff hd hq).mp h

/-- what ratio reckons -/
theorem ratio_num {p q : Int} (hq : q ≠ 0) : p.fdiv (if q < 0 then -((Nat.gcd p.natAbs q.natAbs : Nat) : Int) else ((Nat.gcd p.natAbs q.natAbs : Nat) : Int)) = (Rat.divInt p q).num := by
  have hg : 0 < Nat.gcd p.natAbs q.natAbs := Nat.gcd_pos_of_pos_right _ (by omega)
  have hdp : ((Nat.gcd p.natAbs q.natAbs : Nat) : Int) ∣ p := Int.ofNat_dvd_left.mpr (Nat.gcd_dvd_left _ _)
  rw [Rat.num_divInt]
  have e : q.gcd p = Nat.gcd p.natAbs q.natAbs := by rw [Int.gcd, Nat.gcd_comm]
  rw [e]
  obtain ⟨k, hk⟩ := hdp
  generalize hG : ((Nat.gcd p.natAbs q.natAbs : Nat) : Int) = G at *
  have hG0 : G ≠ 0 := by omega
  by_cases h : q < 0
  · rw [if_pos h, Int.sign_eq_neg_one_of_neg h, hk]
    rw [show -1 * (G * k) = G * (-k) by rw [Int.mul_neg]; omega, Int.mul_ediv_cancel_left _ hG0]
    rw [show G * k = (-G) * (-k) by rw [Int.neg_mul_neg], Int.mul_fdiv_cancel_left _ (by omega)]
  · rw [if_neg h, Int.sign_eq_one_of_pos (by omega), hk, Int.one_mul, Int.mul_ediv_cancel_left _ hG0, Int.mul_fdiv_cancel_left _ hG0]

theorem ratio_den {p q : Int} (hq : q ≠ 0) : q.fdiv (if q < 0 then -((Nat.gcd p.natAbs q.natAbs : Nat) : Int) else ((Nat.gcd p.natAbs q.natAbs : Nat) : Int)) = ((Rat.divInt p q).den : Int) := by
  have hg : 0 < Nat.gcd p.natAbs q.natAbs := Nat.gcd_pos_of_pos_right _ (by omega)
  have hdq : Nat.gcd p.natAbs q.natAbs ∣ q.natAbs := Nat.gcd_dvd_right _ _
  rw [Rat.den_divInt, if_neg hq]
  have e : q.gcd p = Nat.gcd p.natAbs q.natAbs := by rw [Int.gcd, Nat.gcd_comm]
  rw [e]
  obtain ⟨k, hk⟩ := hdq
  generalize hG : Nat.gcd p.natAbs q.natAbs = G at *
  rw [hk, Nat.mul_div_cancel_left _ hg]
  by_cases h : q < 0
  · rw [if_pos h]
    have : q = (-(G : Int)) * (k : Int) := by
      have h2 : (q.natAbs : Int) = -q := by omega
      rw [hk] at h2
      rw [Int.neg_mul, ← Int.natCast_mul]; omega
    rw [this, Int.mul_fdiv_cancel_left _ (by omega)]
  · rw [if_neg h]
    have : q = (G : Int) * (k : Int) := by
      have h2 : (q.natAbs : Int) = q := by omega
      rw [hk] at h2
      rw [← Int.natCast_mul]; omega
    rw [this, Int.mul_fdiv_cancel_left _ (by omega)]

theorem ratio_common {p q : Int} (hq : q ≠ 0) : (if q < 0 then -((Nat.gcd p.natAbs q.natAbs : Nat) : Int) else ((Nat.gcd p.natAbs q.natAbs : Nat) : Int)) ≠ 0 ∧
    (if q < 0 then -((Nat.gcd p.natAbs q.natAbs : Nat) : Int) else ((Nat.gcd p.natAbs q.natAbs : Nat) : Int)).natAbs ≤ q.natAbs := by
  have hg : 0 < Nat.gcd p.natAbs q.natAbs := Nat.gcd_pos_of_pos_right _ (by omega)
  have hl : Nat.gcd p.natAbs q.natAbs ≤ q.natAbs := Nat.le_of_dvd (by omega) (Nat.gcd_dvd_right _ _)
  split <;> omega

theorem rat_add (a b : Rat) : Rat.divInt (a.num * b.den + b.num * a.den) (a.den * b.den) = a + b := by
  rw [Rat.add_def', ← Int.natCast_mul, Rat.divInt_ofNat]
theorem rat_sub (a b : Rat) : Rat.divInt (a.num * b.den - b.num * a.den) (a.den * b.den) = a - b := by
  rw [Rat.sub_def', ← Int.natCast_mul, Rat.divInt_ofNat]
theorem rat_mul (a b : Rat) : Rat.divInt (a.num * b.num) (a.den * b.den) = a * b := by
  rw [Rat.mul_def', ← Int.natCast_mul, Rat.divInt_ofNat]
theorem rat_div (a b : Rat) : Rat.divInt (a.num * b.den) (a.den * b.num) = a / b := by
  rw [Rat.div_def, Rat.inv_def, ← Rat.divInt_mul_divInt, Rat.num_divInt_den]

/-! ### sizes -/
/-- numerator and denominator below 2 ^ n -/
def Sz (n : Nat) (r : Rat) : Prop := r.num.natAbs < 2 ^ n ∧ r.den < 2 ^ n
theorem Sz.mono {n m : Nat} {r : Rat} (h : Sz n r) (k : n ≤ m) : Sz m r :=
  ⟨Nat.lt_of_lt_of_le h.1 (Nat.pow_le_pow_right (by decide) k), Nat.lt_of_lt_of_le h.2 (Nat.pow_le_pow_right (by decide) k)⟩
theorem divInt_le {p q : Int} (hq : q ≠ 0) : (Rat.divInt p q).num.natAbs ≤ p.natAbs ∧ (Rat.divInt p q).den ≤ q.natAbs := by
  constructor
  · rw [Rat.num_divInt, Int.natAbs_ediv_of_dvd ?_]
    · rw [Int.natAbs_mul]
      have : q.sign.natAbs = 1 := Int.natAbs_sign_of_ne_zero hq
      rw [this, Nat.one_mul]
      exact Nat.div_le_self _ _
    · exact Int.dvd_mul_of_dvd_right (Int.gcd_dvd_right ..)
  · rw [Rat.den_divInt, if_neg hq]
    exact Nat.div_le_self _ _
theorem divInt_sz {p q : Int} {n : Nat} (hq : q ≠ 0) (h1 : p.natAbs < 2 ^ n) (h2 : q.natAbs < 2 ^ n) : Sz n (Rat.divInt p q) :=
  ⟨Nat.lt_of_le_of_lt (divInt_le hq).1 h1, Nat.lt_of_le_of_lt (divInt_le hq).2 h2⟩
theorem mul_lt_pow {x y a b : Nat} (h1 : x < 2 ^ a) (h2 : y < 2 ^ b) : x * y < 2 ^ (a + b) := by
  rw [Nat.pow_add]; exact Nat.mul_lt_mul'' h1 h2
theorem natAbs_mul_lt {x y : Int} {a b : Nat} (h1 : x.natAbs < 2 ^ a) (h2 : y.natAbs < 2 ^ b) : (x * y).natAbs < 2 ^ (a + b) := by
  rw [Int.natAbs_mul]; exact mul_lt_pow h1 h2
theorem natAbs_add_lt {x y : Int} {a : Nat} (h1 : x.natAbs < 2 ^ a) (h2 : y.natAbs < 2 ^ a) : (x + y).natAbs < 2 ^ (a + 1) := by
  rw [Nat.pow_succ]; omega
theorem natAbs_sub_lt {x y : Int} {a : Nat} (h1 : x.natAbs < 2 ^ a) (h2 : y.natAbs < 2 ^ a) : (x - y).natAbs < 2 ^ (a + 1) := by
  rw [Nat.pow_succ]; omega
theorem Sz.den {n : Nat} {r : Rat} (h : Sz n r) : ((r.den : Int)).natAbs < 2 ^ n := by
  have := h.2; omega
theorem den_pos (r : Rat) : (0 : Int) < (r.den : Int) := by have := r.den_nz; omega
theorem den_ne (r : Rat) : (r.den : Int) ≠ 0 := by have := r.den_nz; omega
theorem den_mul_pos (r s : Rat) : (0 : Int) < (r.den : Int) * (s.den : Int) := Int.mul_pos (den_pos r) (den_pos s)
theorem cross_lt {a b : Nat} {r s : Rat} (hr : Sz a r) (hs : Sz b s) : (r.num * (s.den : Int)).natAbs < 2 ^ (a + b) ∧ (s.num * (r.den : Int)).natAbs < 2 ^ (a + b) ∧ ((r.den : Int) * (s.den : Int)).natAbs < 2 ^ (a + b) :=
  ⟨natAbs_mul_lt hr.1 hs.den, by rw [Nat.add_comm]; exact natAbs_mul_lt hs.1 hr.den, natAbs_mul_lt hr.den hs.den⟩
theorem Sz.add {a b : Nat} {r s : Rat} (hr : Sz a r) (hs : Sz b s) : Sz (a + b + 1) (r + s) := by
  obtain ⟨h1, h2, h3⟩ := cross_lt hr hs
  rw [← rat_add]
  exact divInt_sz (Int.ne_of_gt (den_mul_pos r s)) (natAbs_add_lt h1 h2) (Nat.lt_of_lt_of_le h3 (Nat.pow_le_pow_right (by decide) (Nat.le_succ _)))
theorem Sz.sub {a b : Nat} {r s : Rat} (hr : Sz a r) (hs : Sz b s) : Sz (a + b + 1) (r - s) := by
  obtain ⟨h1, h2, h3⟩ := cross_lt hr hs
  rw [← rat_sub]
  exact divInt_sz (Int.ne_of_gt (den_mul_pos r s)) (natAbs_sub_lt h1 h2) (Nat.lt_of_lt_of_le h3 (Nat.pow_le_pow_right (by decide) (Nat.le_succ _)))
theorem Sz.mul {a b : Nat} {r s : Rat} (hr : Sz a r) (hs : Sz b s) : Sz (a + b) (r * s) := by
  rw [← rat_mul]
  exact divInt_sz (Int.ne_of_gt (den_mul_pos r s)) (natAbs_mul_lt hr.1 hs.1) (natAbs_mul_lt hr.den hs.den)
theorem Sz.neg {a : Nat} {r : Rat} (hr : Sz a r) : Sz a (-r) := ⟨by rw [Rat.neg_num, Int.natAbs_neg]; exact hr.1, by rw [Rat.neg_den]; exact hr.2⟩
theorem num_ne {r : Rat} (h : r ≠ 0) : r.num ≠ 0 := fun e => h (Rat.num_eq_zero.mp e)
theorem Sz.div {a b : Nat} {r s : Rat} (hr : Sz a r) (hs : Sz b s) (h0 : s ≠ 0) : Sz (a + b) (r / s) := by
  rw [← rat_div]
  exact divInt_sz (Int.mul_ne_zero (den_ne r) (num_ne h0)) (natAbs_mul_lt hr.1 hs.den) (natAbs_mul_lt hr.den hs.1)

/-! ### Euclid -/
/-- what stands after i turns, from a b below 2 ^ L -/
def Euc (L g i : Nat) (a b : Nat) : Prop := Nat.gcd a b = g ∧ (i % 2 = 0 → b < 2 ^ (L - i / 2)) ∧ (i % 2 = 1 → a < 2 ^ (L - i / 2) ∧ b < a)
theorem euc_start {L a b : Nat} (h : b < 2 ^ L) : Euc L (Nat.gcd a b) 0 a b := ⟨rfl, fun _ => h, fun h => by omega⟩
theorem euc_step {L g i a b : Nat} (h : Euc L g i a b) (hb : b ≠ 0) : Euc L g (i + 1) b (a % b) := by
  obtain ⟨hg, h0, h1⟩ := h
  refine ⟨?_, fun e => ?_, fun e => ?_⟩
  · rw [← hg, Nat.gcd_comm a b, Nat.gcd_rec b a, Nat.gcd_comm]
  · obtain ⟨ha, hba⟩ := h1 (by omega)
    have e1 : (i + 1) / 2 = i / 2 + 1 := by omega
    rw [e1]
    have hlt : a % b < b := Nat.mod_lt _ (by omega)
    have hle : a % b + b ≤ a := by
      have := Nat.div_add_mod a b
      have hd : 1 ≤ a / b := Nat.div_pos (by omega) (by omega)
      have : b * 1 ≤ b * (a / b) := Nat.mul_le_mul_left _ hd
      omega
    by_cases hz : L - i / 2 = 0
    · rw [hz] at ha; omega
    · rw [show L - i / 2 = (L - (i / 2 + 1)) + 1 by omega, Nat.pow_succ] at ha
      omega
  · have e1 : (i + 1) / 2 = i / 2 := by omega
    rw [e1]
    exact ⟨h0 (by omega), Nat.mod_lt _ (by omega)⟩
theorem euc_end {L g a b : Nat} (h : Euc L g (2 * L + 2) a b) : a = g := by
  obtain ⟨hg, h0, _⟩ := h
  have := h0 (by omega)
  rw [show L - (2 * L + 2) / 2 = 0 by omega] at this
  have : b = 0 := by omega
  subst this
  rw [← hg, Nat.gcd_zero_right]
theorem euc_zero {L g i a : Nat} (h : Euc L g i a 0) : a = g := by rw [← h.1, Nat.gcd_zero_right]

/-! ### rows -/
def dotR : List Rat → List Rat → Rat
  | r :: rs, s :: ss => r * s + dotR rs ss
  | _, _ => 0
theorem dotR_nil (ss : List Rat) : dotR [] ss = 0 := by cases ss <;> rfl
theorem dotR_take : ∀ (rs ss : List Rat) (i : Nat) (r s : Rat), rs[i]? = some r → ss[i]? = some s → dotR (rs.take (i + 1)) (ss.take (i + 1)) = dotR (rs.take i) (ss.take i) + r * s
  | [], _, _, _, _, h, _ => by simp at h
  | _ :: _, [], _, _, _, _, h => by simp at h
  | a :: rs, b :: ss, 0, r, s, h, h2 => by
    have e1 : a = r := Option.some.inj h
    have e2 : b = s := Option.some.inj h2
    subst e1 e2
    show a * b + dotR (rs.take 0) (ss.take 0) = dotR [] [] + a * b
    rw [List.take_zero, List.take_zero, dotR_nil]
    exact Rat.add_comm _ _
  | a :: rs, b :: ss, i + 1, r, s, h, h2 => by
    have ih := dotR_take rs ss i r s h h2
    show a * b + dotR (rs.take (i + 1)) (ss.take (i + 1)) = a * b + dotR (rs.take i) (ss.take i) + r * s
    rw [ih, Rat.add_assoc]
theorem sz_zero : Sz 1 (0 : Rat) := ⟨by decide, by decide⟩
theorem sz_one : Sz 1 (1 : Rat) := ⟨by decide, by decide⟩
theorem dotR_sz {B : Nat} : ∀ {rs ss : List Rat}, (∀ r ∈ rs, Sz B r) → (∀ s ∈ ss, Sz B s) → Sz (1 + rs.length * (2 * B + 1)) (dotR rs ss)
  | [], ss, _, _ => by rw [dotR_nil]; exact sz_zero.mono (by omega)
  | _ :: _, [], _, _ => sz_zero.mono (by omega)
  | a :: rs, b :: ss, h1, h2 => by
    have ih := dotR_sz (rs := rs) (ss := ss) (fun r hr => h1 r (List.mem_cons_of_mem _ hr)) (fun s hs => h2 s (List.mem_cons_of_mem _ hs))
    have m := (h1 a List.mem_cons_self).mul (h2 b List.mem_cons_self)
    refine (m.add ih).mono ?_
    have e : (rs.length + 1) * (2 * B + 1) = rs.length * (2 * B + 1) + (2 * B + 1) := Nat.succ_mul _ _
    rw [List.length_cons, e]
    generalize rs.length * (2 * B + 1) = n
    omega
theorem divInt_nonneg {p q : Int} (hp : 0 ≤ p) (hq : 0 < q) : 0 ≤ Rat.divInt p q := (Rat.divInt_nonneg_iff_of_pos_right hq).mpr hp
theorem divInt_pos {p q : Int} (hp : 0 < p) (hq : 0 < q) : 0 < Rat.divInt p q := by
  refine Rat.lt_of_le_of_ne (divInt_nonneg (by omega) hq) fun e => ?_
  have := num_mul_eq (p := p) (q := q) (by omega)
  rw [← e] at this
  have h2 : p = 0 := by simpa using this.symm
  omega
theorem num_pos {r : Rat} (h : 0 < r) : 0 < r.num := by
  have h1 := Rat.num_nonneg.mpr (Rat.le_of_lt h)
  have h2 : r.num ≠ 0 := num_ne fun e => by rw [e] at h; exact absurd h (by decide)
  omega
theorem num_nn {r : Rat} (h : 0 ≤ r) : 0 ≤ r.num := Rat.num_nonneg.mpr h
theorem pos_of {r : Rat} (h0 : 0 ≤ r) (h : r.num ≠ 0) : 0 < r := Rat.lt_of_le_of_ne h0 fun e => h (by rw [← e]; rfl)
theorem pow1000 (i : Nat) : 1000 ^ i ≤ 2 ^ (10 * i) := by
  rw [Nat.pow_mul]
  exact Nat.pow_le_pow_left (by decide) i
end BB

set_option maxHeartbeats 4000000
/-! Lay: short words of my own over the hand layer. -/
namespace BB
open PySem PySem.Spec PyProof.Rows L2

/-- a def of the module, by its name and its promise -/
structure Dn (P : Program) (w : World) (K : PySem.W.Frag) (mg : Str → Option Value) (base : Heap) (CX : CXT) (k : Nat) (x : Str) (sp : Sp) : Prop where
  ex : ∃ (f : Addr) (fd : FuncData) (ps : List Str), FnOk P w K mg base CX k f fd ps sp ∧ mg x = some (.ref f) ∧ PySem.W.keepIn K (.ref f) = true ∧ Binds K fd ps []

section
variable {X : Cx} {CX : CXT} {x : Str} {p pos : Pos} {e : Expr} {es : List Expr} {t : TA} {sp : Sp} {k j : Nat} {E : XK}
theorem pe_d (c : Dn X.prog X.w X.K X.mg X.base CX k x sp) (hr : Room j X.A) (hk : k ≤ j) (hg : Gl X x) (hx : Passes CX X E) (ha : PA X (e :: es) t)
    (hdb : (x == ("__debug__" : Str)) = false := by decide) (he : starEach (e :: es) X.env = (false, eval e X.env) :: starEach es X.env := by rfl) (hpl : (backTo pos (starEach es X.env)).any (·.1) = false := by rfl) :
    PE X (.Call (.Name x p) (e :: es) [] pos) (tCall sp [] E t) := by
  obtain ⟨f, fd, ps, F, hm, kp, b⟩ := c.ex
  exact pe_call F (hr.mono hk) hg hm kp b .nil hx ha hdb he hpl
end

/-! ### numbers -/
def CMulG (i j : Int) : Prop := IntMulOk i j
def CDivG (_ j : Int) : Prop := j ≠ 0 ∧ j.natAbs < 2 ^ 9000
section
variable {X : Cx}
theorem op_mulG : OpR X (binaryOp .Mult) (rI CMulG fun i j => .int (i * j)) := opI fun _ _ _ _ _ _ _ hc q => mul_int q hc
theorem op_fdivG : OpR X (binaryOp .FloorDiv) (rI CDivG fun i j => .int (i.fdiv j)) := opI fun _ j _ _ _ _ _ hc q =>
  floordiv_int hc.1 q (.inl (PyProof.noPylong_of_log2 (PySem.Flt.log2_lt_of (by decide) hc.2)))
end
theorem mulG_l {i j : Int} (h : i.natAbs < 2 ^ 60) : CMulG i j := (show CMul i j from .inl ⟨by omega, by omega⟩).ok
theorem mulG_r {i j : Int} (h : j.natAbs < 2 ^ 60) : CMulG i j := (show CMul i j from .inr ⟨by omega, by omega⟩).ok
theorem mulG_b {i j : Int} {a b : Nat} (ha : i.natAbs < 2 ^ a) (hb : j.natAbs < 2 ^ b) (h : a + b ≤ 134217728) : CMulG i j := (mulx_ok ha hb h).ok

theorem bits_lt {n L : Nat} (h : Builtin.Int.intBits (n : Int) = L) : n < 2 ^ L := by
  unfold Builtin.Int.intBits at h
  split at h
  · rename_i z
    have : n = 0 := by
      have := eq_of_beq z
      omega
    subst this
    exact Nat.pow_pos (by decide)
  · subst h
    rw [Int.natAbs_natCast]
    exact Nat.lt_log2_self
theorem bits_le {n m : Nat} (h : n < 2 ^ m) : Builtin.Int.intBits (n : Int) ≤ m + 1 := by
  unfold Builtin.Int.intBits
  split
  · omega
  · rename_i z
    rw [Int.natAbs_natCast]
    by_cases h0 : n = 0
    · subst h0; simp at z
    · have := (Nat.log2_lt h0).mpr h
      omega

/-! ### sequences, as they stand -/
theorem sqt_upd {K : PySem.W.Frag} {H : Hp} {a p : Addr} {xs : List V} {o : HO} (hp : H p = none) (h : SqT K H a xs) : SqT K (upd H p o) a xs := by
  rcases h with (h | ⟨o', h⟩) | h
  · exact .inl (.inl (by rw [upd_ne (ne_of_none h hp)]; exact h))
  · exact .inl (.inr ⟨o', by rw [upd_ne (ne_of_none h hp)]; exact h⟩)
  · exact .inr h
theorem sql_upd {K : PySem.W.Frag} {H : Hp} {a p : Addr} {xs : List V} {o : HO} (hp : H p = none) (h : SqL K H a xs) : SqL K (upd H p o) a xs := by
  rcases h with (h | ⟨o', h⟩) | h
  · exact .inl (.inl (by rw [upd_ne (ne_of_none h hp)]; exact h))
  · exact .inl (.inr ⟨o', by rw [upd_ne (ne_of_none h hp)]; exact h⟩)
  · exact .inr h
theorem sqt_same {K : PySem.W.Frag} {H H' : Hp} {a : Addr} {xs : List V} (e : Same H H') (h : SqT K H a xs) : SqT K H' a xs := by
  rcases h with (h | ⟨o', h⟩) | h
  · exact .inl (.inl (e _ _ h))
  · exact .inl (.inr ⟨o', e _ _ h⟩)
  · exact .inr h
theorem same_upd {H : Hp} {p : Addr} {o : HO} (h : H p = none) : Same H (upd H p o) := fun b x e => by
  rw [upd_ne (ne_of_none e h)]
  exact e
/-- a thing that H₀ did not know may change -/
theorem same_mut {H₀ H : Hp} {p : Addr} {o : HO} (e : Same H₀ H) (h : H₀ p = none) : Same H₀ (upd H p o) := fun b x z => by
  rw [upd_ne (ne_of_none z h)]
  exact e b x z
theorem none_upd {H : Hp} {p q : Addr} {o : HO} (h : (upd H p o) q = none) : H q = none ∧ q ≠ p := by
  by_cases e : q = p
  · subst e; rw [upd_same] at h; cases h
  · rw [upd_ne e] at h; exact ⟨h, e⟩

/-- a fraction that stands at a -/
def IsF (K : PySem.W.Frag) (H : Hp) (a : Addr) (r : Rat) : Prop := SqT K H a [.int r.num, .int (r.den : Int)]
/-- a new fraction -/
def rF (K : PySem.W.Frag) (H : Hp) (r : Rat) (Q : VK) : Prop := ∀ H' a, Same H H' → H a = none → IsF K H' a r → Q (.ref a) H'
theorem IsF.new {K : PySem.W.Frag} {H : Hp} {a p : Addr} {r : Rat} {o : HO} (hp : H p = none) (h : IsF K H a r) : IsF K (upd H p o) a r := sqt_upd hp h
theorem IsF.same {K : PySem.W.Frag} {H H' : Hp} {a : Addr} {r : Rat} (e : Same H H') (h : IsF K H a r) : IsF K H' a r := sqt_same e h
theorem tyT {K : PySem.W.Frag} {H : Hp} {a : Addr} {xs : List V} (h : SqT K H a xs) : TyX K H (.ref a) (.type "tuple") := by
  rcases h with (h | ⟨o', h⟩) | ⟨o, its, n, h, c, _⟩
  · exact .base (.tup h)
  · exact .fTuple h
  · exact .kTuple h c

theorem abs_nn (x : Int) : (0 : Int) ≤ (if x < 0 then -x else x) := by split <;> omega
theorem abs_na (x : Int) : (if x < 0 then -x else x).natAbs = x.natAbs := by split <;> omega
/-! ### drawn rows -/
def isRow (row : List Int) (m : Nat) : Prop := row.length = m ∧ ∀ v ∈ row, 0 ≤ v ∧ v < 1000
theorem isRow.snoc {row : List Int} {m : Nat} {v : Int} (h : isRow row m) (h0 : 0 ≤ v) (h1 : v < 1000) : isRow (row ++ [v]) (m + 1) := by
  refine ⟨by rw [List.length_append, h.1]; rfl, fun u hu => ?_⟩
  rcases List.mem_append.mp hu with hu | hu
  · exact h.2 u hu
  · rw [List.mem_singleton] at hu; subst hu; exact ⟨h0, h1⟩
theorem isRow.get {row : List Int} {n i : Nat} (h : isRow row n) (hi : i < n) : ∃ v, row[i]? = some v ∧ (row.map V.int)[i]? = some (.int v) ∧ 0 ≤ v ∧ v < 1000 := by
  have hl : i < row.length := by rw [h.1]; exact hi
  obtain ⟨h0, h1⟩ := h.2 _ (List.getElem_mem hl)
  exact ⟨row[i], List.getElem?_eq_getElem hl, by rw [List.getElem?_map, List.getElem?_eq_getElem hl]; rfl, h0, h1⟩
theorem isRow.at {row : List Int} {n : Nat} (h : isRow row n) (i : Nat) (hi : i < n) : ∃ v : Int, atI (row.map V.int) (i : Int) = some (.int v) ∧ 0 ≤ v ∧ v < 1000 := by
  obtain ⟨v, _, h2, h3, h4⟩ := h.get hi
  exact ⟨v, atI_nat h2, h3, h4⟩
/-- a row that grows at o -/
def RowAt (H H' : Hp) (o : Addr) (i : Nat) : Prop := H o = none ∧ Same H H' ∧ ∃ rw, isRow rw i ∧ H' o = some (.lst (rw.map V.int))
theorem RowAt.start {H : Hp} {o : Addr} (no : H o = none) : RowAt H (upd H o (.lst [])) o 0 := ⟨no, same_upd no, [], ⟨rfl, fun v hv => by cases hv⟩, upd_same⟩
theorem RowAt.push {H H' : Hp} {o : Addr} {i : Nat} {xs : List V} {z : Int} (r : RowAt H H' o i) (eo : H' o = some (.lst xs)) (h0 : 0 ≤ z) (h1 : z < 1000) : RowAt H (upd H' o (.lst (xs ++ [.int z]))) o (i + 1) := by
  obtain ⟨no, sm, rw, hr, e⟩ := r
  have e2 : xs = rw.map V.int := by
    rw [eo] at e
    exact HO.lst.inj (Option.some.inj e)
  refine ⟨no, same_mut sm no, rw ++ [z], hr.snoc h0 h1, ?_⟩
  rw [upd_same, e2, List.map_append]
  rfl

/-! ### cuts -/
theorem cut_id {D : Ends} {t u : TS} {σ : L2.St} {H : Hp} (Mid : L2.St → Hp → Prop) (h1 : t { D with nx := Mid } σ H) (h2 : ∀ σ' H', Mid σ' H' → u D σ' H') : C8.tCut t u D σ H := ⟨Mid, h1, h2⟩

/-! ### lists of fractions -/
theorem sqt_mut {K : PySem.W.Frag} {H : Hp} {a D : Addr} {xs zs : List V} {o : HO} (hD : H D = some (.lst zs)) (h : SqT K H a xs) : SqT K (upd H D o) a xs := by
  rcases h with (h | ⟨o', h⟩) | h
  · exact .inl (.inl (by rw [upd_ne (ne_of h hD (fun z => nomatch z))]; exact h))
  · exact .inl (.inr ⟨o', by rw [upd_ne (ne_of h hD (fun z => nomatch z))]; exact h⟩)
  · exact .inr h
theorem IsF.mut {K : PySem.W.Frag} {H : Hp} {a D : Addr} {r : Rat} {zs : List V} {o : HO} (hD : H D = some (.lst zs)) (h : IsF K H a r) : IsF K (upd H D o) a r := sqt_mut hD h
/-- fractions, one by one -/
def Fs (K : PySem.W.Frag) (H : Hp) (as : List Addr) (rs : List Rat) : Prop := as.length = rs.length ∧ ∀ (i : Nat) (a : Addr) (r : Rat), as[i]? = some a → rs[i]? = some r → IsF K H a r
theorem Fs.nil {K : PySem.W.Frag} {H : Hp} : Fs K H [] [] := ⟨rfl, fun i a r h _ => by simp at h⟩
theorem Fs.same {K : PySem.W.Frag} {H H' : Hp} {as : List Addr} {rs : List Rat} (e : Same H H') (h : Fs K H as rs) : Fs K H' as rs := ⟨h.1, fun i a r h1 h2 => (h.2 i a r h1 h2).same e⟩
theorem Fs.mut {K : PySem.W.Frag} {H : Hp} {D : Addr} {zs : List V} {o : HO} {as : List Addr} {rs : List Rat} (hD : H D = some (.lst zs)) (h : Fs K H as rs) : Fs K (upd H D o) as rs := ⟨h.1, fun i a r h1 h2 => (h.2 i a r h1 h2).mut hD⟩
theorem Fs.snoc {K : PySem.W.Frag} {H : Hp} {as : List Addr} {rs : List Rat} {a : Addr} {r : Rat} (h : Fs K H as rs) (x : IsF K H a r) : Fs K H (as ++ [a]) (rs ++ [r]) := by
  refine ⟨by rw [List.length_append, List.length_append, h.1]; rfl, fun i b q h1 h2 => ?_⟩
  have hl := h.1
  rcases Nat.lt_or_ge i as.length with hi | hi
  · rw [List.getElem?_append_left hi] at h1
    rw [List.getElem?_append_left (by omega)] at h2
    exact h.2 i b q h1 h2
  · rw [List.getElem?_append_right hi] at h1
    rw [List.getElem?_append_right (by omega)] at h2
    have hi2 : i - as.length = 0 := by
      have := (List.getElem?_eq_some_iff.mp h1).1
      rw [List.length_singleton] at this
      omega
    rw [hi2] at h1
    rw [show i - rs.length = 0 by omega] at h2
    have e1 : a = b := Option.some.inj h1
    have e2 : r = q := Option.some.inj h2
    rw [← e1, ← e2]
    exact x
/-- a list, at l, of these fractions -/
def FsAt (K : PySem.W.Frag) (H : Hp) (l : Addr) (rs : List Rat) : Prop := ∃ as : List Addr, SqL K H l (as.map V.ref) ∧ Fs K H as rs
theorem FsAt.same {K : PySem.W.Frag} {H H' : Hp} {l : Addr} {rs : List Rat} (e : Same H H') (h : FsAt K H l rs) : FsAt K H' l rs := let ⟨as, h1, h2⟩ := h; ⟨as, e.seq h1, h2.same e⟩
/-- the same, tracked -/
def NewFs (K : PySem.W.Frag) (H : Hp) (l : Addr) (rs : List Rat) : Prop := ∃ as : List Addr, H l = some (.lst (as.map V.ref)) ∧ Fs K H as rs
theorem NewFs.at {K : PySem.W.Frag} {H : Hp} {l : Addr} {rs : List Rat} (h : NewFs K H l rs) : FsAt K H l rs := let ⟨as, h1, h2⟩ := h; ⟨as, SqL.of h1, h2⟩
theorem NewFs.same {K : PySem.W.Frag} {H H' : Hp} {l : Addr} {rs : List Rat} (e : Same H H') (h : NewFs K H l rs) : NewFs K H' l rs := let ⟨as, h1, h2⟩ := h; ⟨as, e _ _ h1, h2.same e⟩
def rFs (K : PySem.W.Frag) (H : Hp) (rs : List Rat) (Q : VK) : Prop := ∀ H' l, Same H H' → H l = none → NewFs K H' l rs → Q (.ref l) H'
/-- its places -/
theorem Fs.get {K : PySem.W.Frag} {H : Hp} {as : List Addr} {rs : List Rat} (h : Fs K H as rs) {i : Nat} (hi : i < rs.length) : ∃ a r, as[i]? = some a ∧ (as.map V.ref)[i]? = some (.ref a) ∧ rs[i]? = some r ∧ IsF K H a r := by
  have hl : i < as.length := by rw [h.1]; exact hi
  exact ⟨as[i], rs[i], List.getElem?_eq_getElem hl, by rw [List.getElem?_map, List.getElem?_eq_getElem hl]; rfl, List.getElem?_eq_getElem hi, h.2 i _ _ (List.getElem?_eq_getElem hl) (List.getElem?_eq_getElem hi)⟩
theorem Fs.of {K : PySem.W.Frag} {H : Hp} {as : List Addr} {rs : List Rat} (h : Fs K H as rs) {i : Nat} {x : V} (hx : (as.map V.ref)[i]? = some x) : ∃ a r, x = .ref a ∧ as[i]? = some a ∧ rs[i]? = some r ∧ IsF K H a r ∧ i < rs.length := by
  have hi : i < as.length := by
    have := (List.getElem?_eq_some_iff.mp hx).1
    rw [List.length_map] at this
    exact this
  have hi2 : i < rs.length := by rw [← h.1]; exact hi
  obtain ⟨a, r, e1, e2, e3, e4⟩ := h.get hi2
  rw [hx] at e2
  exact ⟨a, r, Option.some.inj e2, e1, e3, e4, hi2⟩
/-- a list of fractions that grows at D, over H₀ -/
structure Grow (K : PySem.W.Frag) (H₀ H : Hp) (D : Addr) (rs : List Rat) : Prop where
  new : H₀ D = none
  same : Same H₀ H
  ex : NewFs K H D rs
theorem Grow.start {K : PySem.W.Frag} {H : Hp} {D : Addr} (hD : H D = none) : Grow K H (upd H D (.lst [])) D [] := ⟨hD, same_upd hD, [], upd_same, .nil⟩
theorem Grow.step {K : PySem.W.Frag} {H₀ H H1 : Hp} {D a : Addr} {rs : List Rat} {r : Rat} (g : Grow K H₀ H D rs) (s : Same H H1) (x : IsF K H1 a r) (hl : rs.length ≤ 1000) :
    ∃ acc, H1 D = some (.lst acc) ∧ acc.length < sizeLine ∧ Grow K H₀ (upd H1 D (.lst (acc ++ [.ref a]))) D (rs ++ [r]) := by
  obtain ⟨n, sm, as, e, f⟩ := g
  have e1 := s _ _ e
  refine ⟨as.map V.ref, e1, ?_, n, same_mut (sm.trans s) n, as ++ [a], ?_, ((f.same s).snoc x).mut e1⟩
  · rw [List.length_map, f.1]
    exact small1000 hl
  · rw [upd_same, List.map_append]
    rfl
theorem Grow.fs {K : PySem.W.Frag} {H₀ H : Hp} {D l : Addr} {rs ss : List Rat} (g : Grow K H₀ H D rs) (h : FsAt K H₀ l ss) : FsAt K H l ss := h.same g.same

/-- a comprehension over zip of two lists of one length -/
theorem lc_zipL {K : PySem.W.Frag} {a b : Addr} {xs ys : List V} {g : TG} {tt : TT} {te : TE} {vs : List Nat} {σ : L2.St} {H1 : Hp} {D : Addr} {Qd : Hp → Prop} (hl : xs.length = ys.length) (Pv : Nat → Hp → Prop) (h0 : Pv 0 (upd H1 D (.lst []))) (hq : ∀ i H, Pv i H → SqL K H a xs ∧ SqL K H b ys)
    (hs : ∀ (i : Nat) (x y : V) (T : Addr) (H : Hp), xs[i]? = some x → ys[i]? = some y → Pv i H → H T = none → g (.ref T) (wipe σ vs) (upd H T (.tup [x, y])) fun σ2 H2 => wipe σ2 vs = wipe σ vs ∧ tt σ2 H2 fun b H3 =>
      if b = true then te σ2 H3 fun y H4 => ∃ acc, H4 D = some (.lst acc) ∧ acc.length < sizeLine ∧ Pv (i + 1) (upd H4 D (.lst (acc ++ [y]))) else Pv (i + 1) H3) (hd : ∀ H, Pv xs.length H → Qd H) :
    ∃ W : Nat → Nat → Hp → Prop, (∃ m, W 0 m (upd H1 D (.lst []))) ∧ ∀ i m H, W i m H →
      ((Itz K a b).stop i H ∧ Qd H) ∨ ((Itz K a b).go i H ∧ ∃ Nx : Hp → Prop, (∀ H', Nx H' → ∃ m', m' < m ∧ W (i + 1) m' H') ∧ ∀ x H', (Itz K a b).yld i H x H' → g x (wipe σ vs) H' fun σ2 H2 => wipe σ2 vs = wipe σ vs ∧ tt σ2 H2 fun b H3 =>
        if b = true then te σ2 H3 fun y H4 => ∃ acc, H4 D = some (.lst acc) ∧ acc.length < sizeLine ∧ Nx (upd H4 D (.lst (acc ++ [y]))) else Nx H3) := by
  refine ⟨fun i m H => m = xs.length - i ∧ i ≤ xs.length ∧ Pv i H, ⟨xs.length, rfl, Nat.zero_le _, h0⟩, ?_⟩
  rintro i m H ⟨rfl, hi, p⟩
  obtain ⟨qx, qy⟩ := hq i H p
  by_cases hlt : i < xs.length
  · have hx : xs[i]? = some xs[i] := List.getElem?_eq_getElem hlt
    have hlt2 : i < ys.length := by omega
    have hy : ys[i]? = some ys[i] := List.getElem?_eq_getElem hlt2
    refine .inr ⟨⟨xs, ys, _, _, qx, qy, hx, hy⟩, Pv (i + 1), fun H' p' => ⟨xs.length - (i + 1), by omega, rfl, hlt, p'⟩, fun v H' y => ?_⟩
    obtain ⟨T, x', y', rfl, hT, rfl, f1, f2⟩ := y
    exact hs i x' y' T H (f1 xs qx) (f2 ys qy) p hT
  · have e : i = xs.length := by omega
    subst e
    exact .inl ⟨⟨xs, ys, qx, qy, Or.inl (Nat.le_refl _)⟩, hd H p⟩

/-! ### data, for == -/
def fD (r : Rat) : PyData := .tuple [.int r.num, .int (r.den : Int)]
theorem dp_f {K : PySem.W.Frag} {H : Hp} {a : Addr} {r : Rat} (h : IsF K H a r) : Dp K H (.ref a) (fD r) := .tup h (.cons (.int _) (.cons (.int _) .nil))
theorem dpAll_f {K : PySem.W.Frag} {H : Hp} : ∀ (as : List Addr) (rs : List Rat), Fs K H as rs → DpAll K H (as.map V.ref) (rs.map fD)
  | [], [], _ => .nil
  | [], _ :: _, h => by have := h.1; simp at this
  | _ :: _, [], h => by have := h.1; simp at this
  | a :: as, r :: rs, h => .cons (dp_f (h.2 0 a r rfl rfl)) (dpAll_f as rs ⟨by have := h.1; simp at this; exact this, fun i b q h1 h2 => h.2 (i + 1) b q h1 h2⟩)
theorem dp_fs {K : PySem.W.Frag} {H : Hp} {l : Addr} {rs : List Rat} (h : FsAt K H l rs) : Dp K H (.ref l) (.list (rs.map fD)) := let ⟨_, h1, h2⟩ := h; .lst h1 (dpAll_f _ _ h2)
theorem canLay_f : ∀ rs : List Rat, PyData.canLayAll0 (rs.map fD) = true
  | [] => rfl
  | r :: rs => by
    show (PyData.canLay0 (fD r) && PyData.canLayAll0 (rs.map fD)) = true
    rw [canLay_f rs]
    rfl
theorem depth_f : ∀ rs : List Rat, PyData.depthAll (rs.map fD) ≤ 1
  | [] => Nat.zero_le _
  | r :: rs => by
    show max (PyData.depth (fD r)) (PyData.depthAll (rs.map fD)) ≤ 1
    exact Nat.max_le.mpr ⟨Nat.le_refl 1, depth_f rs⟩
theorem shaped_fs (rs : List Rat) : SeqAt.shaped (.list (rs.map fD)) = true := by
  unfold SeqAt.shaped
  rw [show PyData.canLay0 (.list (rs.map fD)) = PyData.canLayAll0 (rs.map fD) from rfl, canLay_f, Bool.true_and]
  refine decide_eq_true ?_
  show PyData.depthAll (rs.map fD) + 1 ≤ 64
  have := depth_f rs
  omega
theorem eqv_fs (rs : List Rat) : PyData.eqv (.list (rs.map fD)) (.list (rs.map fD)) = true := SeqAt.eqv_refl _ (canLay_f rs)

/-- a text, sign by sign -/
theorem for_sgn {x : Str} {g : TG} {tb : TS} {D : Ends} {σ : L2.St} {H : Hp} (Pv : Nat → L2.St → Hp → Prop) (h0 : Pv 0 σ H)
    (turn : ∀ (i c : Nat) (σ : L2.St) (H : Hp), x.cps[i]? = some c → Pv i σ H → g (.str ⟨#[c]⟩) σ H fun σ2 H2 => tb { D with nx := Pv (i + 1), ct := Pv (i + 1), bk := D.nx } σ2 H2) (fin : ∀ σ H, Pv x.cps.size σ H → D.nx σ H) :
    ∃ W : Nat → Nat → L2.St → Hp → Prop, (∃ m, W 0 m σ H) ∧ ∀ i m σ H, W i m σ H →
      ((Its x).stop i H ∧ D.nx σ H) ∨ ((Its x).go i H ∧ ∃ N : L2.St → Hp → Prop, (∀ σ' H', N σ' H' → ∃ m', m' < m ∧ W (i + 1) m' σ' H') ∧ ∀ v H', (Its x).yld i H v H' → g v σ H' fun σ2 H2 => tb { D with nx := N, ct := N, bk := D.nx } σ2 H2) := by
  refine ⟨fun i m σ H => m + i = x.cps.size ∧ Pv i σ H, ⟨x.cps.size, rfl, h0⟩, ?_⟩
  rintro i m σ H ⟨em, p⟩
  rcases Nat.lt_or_ge i x.cps.size with hlt | hge
  · refine .inr ⟨hlt, Pv (i + 1), fun σ' H' p' => ⟨m - 1, by omega, by omega, p'⟩, ?_⟩
    rintro v H' ⟨rfl, c, hc, rfl⟩
    exact turn i c σ H' hc p
  · have e : i = x.cps.size := by omega
    subst e
    exact .inl ⟨Nat.le_refl _, fin σ H p⟩
end BB

set_option maxHeartbeats 4000000
/-! Dat: nested data, how it stands, what is new of it, lists of it that grow. -/
namespace BB
open PySem PySem.Spec PyProof.Rows L2
variable {K : PySem.W.Frag}

mutual
theorem dp_same {H H' : Hp} (e : Same H H') : ∀ {v : V} {d : PyData}, Dp K H v d → Dp K H' v d
  | _, _, .non => .non
  | _, _, .bl b => .bl b
  | _, _, .int i => .int i
  | _, _, .str x => .str x
  | _, _, .lst h a => .lst (e.seq h) (dpa_same e a)
  | _, _, .tup h a => .tup (sqt_same e h) (dpa_same e a)
theorem dpa_same {H H' : Hp} (e : Same H H') : ∀ {vs : List V} {ds : List PyData}, DpAll K H vs ds → DpAll K H' vs ds
  | _, _, .nil => .nil
  | _, _, .cons a b => .cons (dp_same e a) (dpa_same e b)
end
theorem dp_lst {H : Hp} {v : V} {ds : List PyData} (h : Dp K H v (.list ds)) : ∃ a xs, v = .ref a ∧ SqL K H a xs ∧ DpAll K H xs ds := by
  cases h with
  | lst h a => exact ⟨_, _, rfl, h, a⟩
theorem dp_tup {H : Hp} {v : V} {ds : List PyData} (h : Dp K H v (.tuple ds)) : ∃ a xs, v = .ref a ∧ SqT K H a xs ∧ DpAll K H xs ds := by
  cases h with
  | tup h a => exact ⟨_, _, rfl, h, a⟩
theorem dp_int {H : Hp} {v : V} {i : Int} (h : Dp K H v (.int i)) : v = .int i := by cases h; rfl
theorem dp_bl {H : Hp} {v : V} {b : Bool} (h : Dp K H v (.bool b)) : v = .bl b := by cases h; rfl
theorem dp_str {H : Hp} {v : V} {x : Str} (h : Dp K H v (.str x)) : v = .str x := by cases h; rfl
theorem dp_non {H : Hp} {v : V} (h : Dp K H v .none) : v = .non := by cases h; rfl
theorem dpa_len {H : Hp} : ∀ {xs : List V} {ds : List PyData}, DpAll K H xs ds → xs.length = ds.length
  | _, _, .nil => rfl
  | _, _, .cons _ b => congrArg (· + 1) (dpa_len b)
theorem dpa_get {H : Hp} : ∀ {xs : List V} {ds : List PyData} {i : Nat} {d : PyData}, DpAll K H xs ds → ds[i]? = some d → ∃ x, xs[i]? = some x ∧ Dp K H x d
  | _, _, _, _, .nil, e => by simp at e
  | _, _, 0, _, .cons a _, e => by
    cases Option.some.inj e
    exact ⟨_, rfl, a⟩
  | _, _, i + 1, _, .cons _ b, e => dpa_get (i := i) b e
theorem dpa_got {H : Hp} : ∀ {xs : List V} {ds : List PyData} {i : Nat} {x : V}, DpAll K H xs ds → xs[i]? = some x → ∃ d, ds[i]? = some d ∧ Dp K H x d
  | _, _, _, _, .nil, e => by simp at e
  | _, _, 0, _, .cons a _, e => by
    cases Option.some.inj e
    exact ⟨_, rfl, a⟩
  | _, _, i + 1, _, .cons _ b, e => dpa_got (i := i) b e
theorem dpa_snoc {H : Hp} {v : V} {d : PyData} (x : Dp K H v d) : ∀ {xs : List V} {ds : List PyData}, DpAll K H xs ds → DpAll K H (xs ++ [v]) (ds ++ [d])
  | _, _, .nil => .cons x .nil
  | _, _, .cons a b => .cons a (dpa_snoc x b)
theorem dpa_one {H : Hp} {xs : List V} {d : PyData} (h : DpAll K H xs [d]) : ∃ v, xs = [v] ∧ Dp K H v d := by
  cases h with
  | cons a b => cases b; exact ⟨_, rfl, a⟩
theorem dpa_two {H : Hp} {xs : List V} {d e : PyData} (h : DpAll K H xs [d, e]) : ∃ v w, xs = [v, w] ∧ Dp K H v d ∧ Dp K H w e := by
  cases h with
  | cons a b => obtain ⟨w, rfl, y⟩ := (dpa_one b); exact ⟨_, _, rfl, a, y⟩
theorem dpa_three {H : Hp} {xs : List V} {d e f : PyData} (h : DpAll K H xs [d, e, f]) : ∃ v w x, xs = [v, w, x] ∧ Dp K H v d ∧ Dp K H w e ∧ Dp K H x f := by
  cases h with
  | cons a b => obtain ⟨w, x, rfl, y, z⟩ := (dpa_two b); exact ⟨_, _, _, rfl, a, y, z⟩
/-- data without None, of a depth below n -/
def plain : Nat → PyData → Prop
  | 0, _ => False
  | _ + 1, .none => False
  | _ + 1, .bool _ => True
  | _ + 1, .int _ => True
  | _ + 1, .str _ => True
  | n + 1, .list ds => ds.length ≤ 1000000 ∧ ∀ d ∈ ds, plain n d
  | n + 1, .tuple ds => ds.length ≤ 1000000 ∧ ∀ d ∈ ds, plain n d
  | _ + 1, .dict _ => False
theorem plain.succ : ∀ {n : Nat} {d : PyData}, plain n d → plain (n + 1) d
  | 0, _, h => h.elim
  | _ + 1, .none, h => h
  | _ + 1, .bool _, _ => trivial
  | _ + 1, .int _, _ => trivial
  | _ + 1, .str _, _ => trivial
  | n + 1, .list ds, h => ⟨h.1, fun d hd => plain.succ (n := n) (h.2 d hd)⟩
  | n + 1, .tuple ds, h => ⟨h.1, fun d hd => plain.succ (n := n) (h.2 d hd)⟩
  | _ + 1, .dict _, h => h
theorem plain.mono {n m : Nat} {d : PyData} (h : plain n d) (k : n ≤ m) : plain m d := by
  obtain ⟨j, rfl⟩ := Nat.le.dest k
  induction j with
  | zero => exact h
  | succ j ih => exact (ih (Nat.le_add_right _ _)).succ
/-- the kind, for isinstance -/
theorem tyL {H : Hp} {a : Addr} {xs : List V} (h : SqL K H a xs) : TyX K H (.ref a) (.type "list") := by
  rcases h with (h | ⟨o', h⟩) | ⟨o, its, n, h, c, _⟩
  · exact .base (.lst h)
  · exact .base (.frz h)
  · exact .kList h c

/-! ### fractions -/
theorem isF_of {H : Hp} {v : V} {r : Rat} (h : Dp K H v (fD r)) : ∃ a, v = .ref a ∧ IsF K H a r := by
  obtain ⟨a, xs, rfl, hs, ha⟩ := dp_tup h
  obtain ⟨v, w, rfl, e1, e2⟩ := dpa_two ha
  cases (dp_int e1)
  cases (dp_int e2)
  exact ⟨a, rfl, hs⟩
def fsD (rs : List Rat) : PyData := .list (rs.map fD)
theorem fsAt_of {H : Hp} {v : V} {rs : List Rat} (h : Dp K H v (fsD rs)) : ∃ l, v = .ref l ∧ FsAt K H l rs := by
  obtain ⟨a, xs, rfl, hs, ha⟩ := dp_lst h
  suffices h : ∀ (xs : List V) (rs : List Rat), DpAll K H xs (rs.map fD) → ∃ as : List Addr, xs = as.map V.ref ∧ Fs K H as rs by
    obtain ⟨as, rfl, f⟩ := h xs rs ha
    exact ⟨a, rfl, as, hs, f⟩
  intro xs rs
  induction rs generalizing xs with
  | nil =>
    intro h
    cases h
    exact ⟨[], rfl, .nil⟩
  | cons r rs ih =>
    intro h
    cases h with
    | cons a b =>
      obtain ⟨x, rfl, hx⟩ := isF_of a
      obtain ⟨as, rfl, f⟩ := ih _ b
      refine ⟨x :: as, rfl, by simp [f.1], fun i a q h1 h2 => ?_⟩
      cases i with
      | zero =>
        cases Option.some.inj h1
        cases Option.some.inj h2
        exact hx
      | succ i => exact f.2 i a q h1 h2

theorem mk_numD {p : Int} {q : Nat} (hq : q ≠ 0) (hg : Nat.gcd p.natAbs q = 1) : (Rat.divInt p (q : Int)).num = p ∧ (Rat.divInt p (q : Int)).den = q := by
  have e : Rat.divInt p (q : Int) = ⟨p, q, hq, hg⟩ := by rw [Rat.mk_eq_divInt]
  rw [e]
  exact ⟨rfl, rfl⟩
theorem int_num (n : Int) : (Rat.divInt n 1).num = n ∧ (Rat.divInt n 1).den = 1 := by
  have h := mk_numD (p := n) (q := 1) (by decide) (Nat.gcd_one_right _)
  exact h
theorem int_f {H : Hp} {p : Addr} {n : Int} (h : SqT K H p [.int n, .int 1]) : IsF K H p (Rat.divInt n 1) := by
  unfold IsF
  rw [(int_num n).1, (int_num n).2]
  exact h
theorem ixN_nat {n i : Nat} (h : i < n) : ixN n (i : Int) = some i := by
  unfold ixN
  simp [h]
theorem atI_mod {α : Type} {xs : List α} {n : Int} (hn : 0 < n) (h : (xs.length : Int) = n) (v : Int) : ∃ x, x ∈ xs ∧ atI xs (v % n) = some x := by
  obtain ⟨k, ek⟩ := Int.eq_ofNat_of_zero_le (Int.emod_nonneg v (show n ≠ 0 by omega))
  have h1 := Int.emod_lt_of_pos v hn
  have hk : k < xs.length := by omega
  refine ⟨xs[k], List.getElem_mem hk, ?_⟩
  rw [ek]
  exact atI_nat (List.getElem?_eq_getElem hk)
theorem atI_last {α : Type} {xs : List α} {x : α} (h : xs[xs.length - 1]? = some x) : atI xs (-1) = some x := by
  have hl := (List.getElem?_eq_some_iff.mp h).1
  unfold atI ixN
  rw [if_neg (by decide), if_pos (by omega)]
  show xs[(-1 + (xs.length : Int)).toNat]? = some x
  rw [show (-1 + (xs.length : Int)).toNat = xs.length - 1 by omega]
  exact h
/-! ### what is new -/
/-- not there, or a tuple: what no one changes -/
def soft : Option HO → Bool
  | none => true
  | some (.tup _) => true
  | some (.frz _ (.tup _)) => true
  | _ => false
/-- the part of H' that H does not know, with its tuples -/
def fresh (H H' : Hp) : Hp := fun b => if soft (H b) = true then H' b else none
theorem fresh_sub {H H' : Hp} : Same (fresh H H') H' := fun b o e => by
  unfold fresh at e
  split at e
  · exact e
  · cases e
theorem fresh_soft {H H' : Hp} {b : Addr} (h : soft (H b) = true) : fresh H H' b = H' b := if_pos h
theorem fresh_at {H H' : Hp} {b : Addr} (h : H b = none) : fresh H H' b = H' b := fresh_soft (by rw [h]; rfl)
theorem fresh_hard {H H' : Hp} {b : Addr} (h : soft (H b) = false) : fresh H H' b = none := if_neg (by rw [h]; exact Bool.noConfusion)
theorem soft_old {H₀ H : Hp} (e : Same H₀ H) {b : Addr} (h : soft (H b) = true) : soft (H₀ b) = true := by
  cases z : H₀ b with
  | none => rfl
  | some o =>
    rw [e _ _ z] at h
    exact h
theorem fresh_mono {H H1 H2 : Hp} (e : Same H1 H2) : Same (fresh H H1) (fresh H H2) := fun b o q => by
  cases z : soft (H b) with
  | true =>
    rw [fresh_soft z] at q ⊢
    exact e _ _ q
  | false =>
    rw [fresh_hard z] at q
    cases q
theorem fresh_old {H₀ H H' : Hp} (e : Same H₀ H) : Same (fresh H H') (fresh H₀ H') := fun b o q => by
  cases z : soft (H b) with
  | true =>
    rw [fresh_soft z] at q
    rw [fresh_soft (soft_old e z)]
    exact q
  | false =>
    rw [fresh_hard z] at q
    cases q
/-- a result that is wholly new -/
def rD (K : PySem.W.Frag) (H : Hp) (d : PyData) (Q : VK) : Prop := ∀ (H' : Hp) (v : V), Same H H' → Dp K (fresh H H') v d → Q v H'
/-- .. without the things at Ds -/
def but (H : Hp) (Ds : List Addr) : Hp := fun b => if b ∈ Ds then none else H b
theorem but_sub {H : Hp} {Ds : List Addr} : Same (but H Ds) H := fun b o e => by
  unfold but at e
  split at e
  · cases e
  · exact e
theorem but_mono {H H' : Hp} {Ds : List Addr} (e : Same H H') : Same (but H Ds) (but H' Ds) := fun b o q => by
  unfold but at q ⊢
  split at q
  · cases q
  · rename_i z; rw [if_neg z]; exact e _ _ q
theorem but_at {H : Hp} {Ds : List Addr} {b : Addr} (h : b ∉ Ds) : but H Ds b = H b := if_neg h
theorem but_upd {H₀ H : Hp} {Ds : List Addr} {D : Addr} {o : HO} (hD : D ∈ Ds) : but (fresh H₀ (upd H D o)) Ds = but (fresh H₀ H) Ds := by
  funext b
  unfold but fresh
  split
  · rfl
  · rename_i z
    split
    · rw [upd_ne (fun q => z (by rw [q]; exact hD))]
    · rfl
/-- what a call made new stands apart from what grows -/
theorem new_in {H₀ H H' : Hp} {Ds : List Addr} {v : V} {d : PyData} (e : Same H₀ H) (hD : ∀ D ∈ Ds, soft (H D) = false) (h : Dp K (fresh H H') v d) : Dp K (but (fresh H₀ H') Ds) v d := by
  refine dp_same (fun b o q => ?_) h
  cases z : soft (H b) with
  | false =>
    rw [fresh_hard z] at q
    cases q
  | true =>
    rw [but_at (fun y => by rw [hD b y] at z; cases z)]
    exact fresh_old e b o q
/-- a list at D that grows, over H₀, beside the others at Ds -/
def Gr (K : PySem.W.Frag) (H₀ H : Hp) (Ds : List Addr) (D : Addr) (ds : List PyData) : Prop :=
  D ∈ Ds ∧ H₀ D = none ∧ ∃ xs, H D = some (.lst xs) ∧ DpAll K (but (fresh H₀ H) Ds) xs ds
theorem Gr.same {H₀ H H' : Hp} {Ds : List Addr} {D : Addr} {ds : List PyData} (e : Same H H') (g : Gr K H₀ H Ds D ds) : Gr K H₀ H' Ds D ds :=
  let ⟨a, b, xs, h, c⟩ := g; ⟨a, b, xs, e _ _ h, dpa_same (but_mono (fresh_mono e)) c⟩
theorem Gr.hard {H₀ H : Hp} {Ds : List Addr} {D : Addr} {ds : List PyData} (g : Gr K H₀ H Ds D ds) : soft (H D) = false := by
  obtain ⟨_, _, xs, h, _⟩ := g
  rw [h]
  rfl
theorem Gr.len {H₀ H : Hp} {Ds : List Addr} {D : Addr} {ds : List PyData} {xs : List V} (g : Gr K H₀ H Ds D ds) (h : H D = some (.lst xs)) : xs.length = ds.length := by
  obtain ⟨_, _, ys, h2, c⟩ := g
  rw [h] at h2
  cases h2
  exact dpa_len c
theorem Gr.push {H₀ H : Hp} {Ds : List Addr} {D : Addr} {ds : List PyData} {v : V} {d : PyData} (g : Gr K H₀ H Ds D ds) (x : Dp K (but (fresh H₀ H) Ds) v d) (hl : ds.length ≤ 1000) :
    ∃ xs, H D = some (.lst xs) ∧ xs.length < sizeLine ∧ Gr K H₀ (upd H D (.lst (xs ++ [v]))) Ds D (ds ++ [d]) := by
  obtain ⟨a, b, xs, h, c⟩ := g
  refine ⟨xs, h, by rw [dpa_len c]; exact small1000 hl, a, b, xs ++ [v], upd_same, ?_⟩
  rw [but_upd a]
  exact dpa_snoc x c
theorem Gr.other {H₀ H : Hp} {Ds : List Addr} {D D' : Addr} {ds : List PyData} {o : HO} (g : Gr K H₀ H Ds D ds) (hD : D' ∈ Ds) (hne : D ≠ D') : Gr K H₀ (upd H D' o) Ds D ds := by
  obtain ⟨a, b, xs, h, c⟩ := g
  refine ⟨a, b, xs, by rw [upd_ne hne]; exact h, ?_⟩
  rw [but_upd hD]
  exact c
theorem Gr.start {H₀ H : Hp} {Ds : List Addr} {D : Addr} (e : Same H₀ H) (h : H D = none) (hD : D ∈ Ds) : Gr K H₀ (upd H D (.lst [])) Ds D [] := ⟨hD, e.free h, [], upd_same, .nil⟩
theorem Gr.seq {H₀ H : Hp} {Ds : List Addr} {D : Addr} {ds : List PyData} (g : Gr K H₀ H Ds D ds) : ∃ xs, SqL K H D xs ∧ DpAll K H xs ds :=
  let ⟨_, _, xs, h, c⟩ := g; ⟨xs, SqL.of h, dpa_same (but_sub.trans fresh_sub) c⟩
theorem Gr.done {H₀ H : Hp} {Ds : List Addr} {D : Addr} {ds : List PyData} (g : Gr K H₀ H Ds D ds) : Dp K (fresh H₀ H) (.ref D) (.list ds) := by
  obtain ⟨a, b, xs, h, c⟩ := g
  exact .lst (SqL.of (by rw [fresh_at b]; exact h)) (dpa_same but_sub c)
theorem dpa_set {H : Hp} {v : V} {d : PyData} (x : Dp K H v d) : ∀ {xs : List V} {ds : List PyData} {i : Nat}, DpAll K H xs ds → DpAll K H (xs.set i v) (ds.set i d)
  | _, _, _, .nil => .nil
  | _, _, 0, .cons _ b => .cons x b
  | _, _, i + 1, .cons a b => .cons a (dpa_set x b)
theorem Gr.put {H₀ H : Hp} {Ds : List Addr} {D : Addr} {ds : List PyData} {v : V} {d : PyData} {xs : List V} {i : Nat} (g : Gr K H₀ H Ds D ds) (h : H D = some (.lst xs)) (x : Dp K (but (fresh H₀ H) Ds) v d) : Gr K H₀ (upd H D (.lst (xs.set i v))) Ds D (ds.set i d) := by
  obtain ⟨a, b, ys, h2, c⟩ := g
  rw [h] at h2
  cases h2
  refine ⟨a, b, xs.set i v, upd_same, ?_⟩
  rw [but_upd a]
  exact dpa_set x c
theorem but_cons {H : Hp} {D : Addr} {Ds : List Addr} : Same (but H (D :: Ds)) (but H Ds) := fun b o e => by
  by_cases z : b ∈ Ds
  · have : but H (D :: Ds) b = none := if_pos (List.mem_cons_of_mem _ z)
    rw [this] at e
    cases e
  · rw [but_at z]
    exact but_sub b o e
/-- done, beside what goes on -/
theorem Gr.done2 {H₀ H : Hp} {Ds : List Addr} {D : Addr} {ds : List PyData} (g : Gr K H₀ H (D :: Ds) D ds) (hD : D ∉ Ds) : Dp K (but (fresh H₀ H) Ds) (.ref D) (.list ds) := by
  obtain ⟨a, b, xs, h, c⟩ := g
  exact .lst (SqL.of (by rw [but_at hD, fresh_at b]; exact h)) (dpa_same but_cons c)
/-- a new tuple, a new list of new things -/
theorem new_tup {H₀ H : Hp} {p : Addr} {xs : List V} {ds : List PyData} (e : Same H₀ H) (h : H p = none) (c : DpAll K (fresh H₀ H) xs ds) : Dp K (fresh H₀ (upd H p (.tup xs))) (.ref p) (.tuple ds) :=
  .tup (SqT.of (by rw [fresh_at (e.free h)]; exact upd_same)) (dpa_same (fresh_mono (same_upd h)) c)
theorem new_lst {H₀ H : Hp} {p : Addr} {xs : List V} {ds : List PyData} (e : Same H₀ H) (h : H p = none) (c : DpAll K (fresh H₀ H) xs ds) : Dp K (fresh H₀ (upd H p (.lst xs))) (.ref p) (.list ds) :=
  .lst (SqL.of (by rw [fresh_at (e.free h)]; exact upd_same)) (dpa_same (fresh_mono (same_upd h)) c)

/-- a tuple is as good as new -/
theorem sqt_fresh {H H' : Hp} {a : Addr} {xs : List V} (e : Same H H') (h : SqT K H' a xs) : SqT K (fresh H H') a xs := by
  have key : ∀ o, soft (some o) = true → H' a = some o → fresh H H' a = some o := fun o so ho => by
    rw [fresh_soft (soft_old e (by rw [ho]; exact so)), ho]
  rcases h with (h | ⟨o', h⟩) | h
  · exact .inl (.inl (key _ rfl h))
  · exact .inl (.inr ⟨o', key _ rfl h⟩)
  · exact .inr h
theorem new_f {H H' : Hp} {a : Addr} {r : Rat} (e : Same H H') (h : IsF K H' a r) : Dp K (fresh H H') (.ref a) (fD r) := .tup (sqt_fresh e h) (.cons (.int _) (.cons (.int _) .nil))
theorem Fs.fresh {H H' : Hp} {as : List Addr} {rs : List Rat} (e : Same H H') (h : Fs K H' as rs) : Fs K (fresh H H') as rs := ⟨h.1, fun i a r h1 h2 => sqt_fresh e (h.2 i a r h1 h2)⟩
/-- a new list of fractions that stood -/
theorem new_fs {H₀ H : Hp} {p : Addr} {as : List Addr} {rs : List Rat} (e : Same H₀ H) (h : H p = none) (c : Fs K H as rs) : Dp K (BB.fresh H₀ (upd H p (.lst (as.map V.ref)))) (.ref p) (fsD rs) := new_lst e h (dpAll_f as rs (c.fresh e))
theorem sqt_grow {H₀ H : Hp} {Ds : List Addr} {a : Addr} {xs : List V} (e : Same H₀ H) (hD : ∀ D ∈ Ds, soft (H D) = false) (h : SqT K H a xs) : SqT K (but (BB.fresh H₀ H) Ds) a xs := by
  have h2 := sqt_fresh e h
  have key : ∀ o, soft (some o) = true → BB.fresh H₀ H a = some o → but (BB.fresh H₀ H) Ds a = some o := fun o so ho => by
    refine Eq.trans (but_at fun y => ?_) ho
    have := hD a y
    rw [fresh_sub a o ho, so] at this
    cases this
  rcases h2 with (h | ⟨o', h⟩) | h
  · exact .inl (.inl (key _ rfl h))
  · exact .inl (.inr ⟨o', key _ rfl h⟩)
  · exact .inr h
/-- .. beside what grows -/
theorem grow_f {H₀ H : Hp} {Ds : List Addr} {a : Addr} {r : Rat} (e : Same H₀ H) (hD : ∀ D ∈ Ds, soft (H D) = false) (h : IsF K H a r) : Dp K (but (fresh H₀ H) Ds) (.ref a) (fD r) := by
  have h2 := sqt_fresh e h
  have key : ∀ o, soft (some o) = true → fresh H₀ H a = some o → but (fresh H₀ H) Ds a = some o := fun o so ho => by
    refine Eq.trans (but_at fun y => ?_) ho
    have := hD a y
    rw [fresh_sub a o ho, so] at this
    cases this
  refine .tup ?_ (.cons (.int _) (.cons (.int _) .nil))
  rcases h2 with (h | ⟨o', h⟩) | h
  · exact .inl (.inl (key _ rfl h))
  · exact .inl (.inr ⟨o', key _ rfl h⟩)
  · exact .inr h

/-- a new tuple, beside what grows -/
theorem grow_tup {H₀ H : Hp} {Ds : List Addr} {p : Addr} {xs : List V} {ds : List PyData} (e : Same H₀ H) (hD : ∀ D ∈ Ds, soft (H D) = false) (h : H p = none) (c : DpAll K (but (fresh H₀ H) Ds) xs ds) : Dp K (but (fresh H₀ (upd H p (.tup xs))) Ds) (.ref p) (.tuple ds) := by
  refine .tup (SqT.of ?_) (dpa_same (but_mono (fresh_mono (same_upd h))) c)
  rw [but_at (fun y => by have := hD p y; rw [h] at this; cases this), fresh_at (e.free h)]
  exact upd_same

/-- a row that stands, beside a list that grows: they are two -/
theorem sql_keep {H : Hp} {a D : Addr} {xs : List V} {o : HO} (hne : a ≠ D) (h : SqL K H a xs) : SqL K (upd H D o) a xs := by
  rcases h with (h | ⟨o', h⟩) | h
  · exact .inl (.inl (by rw [upd_ne hne]; exact h))
  · exact .inl (.inr ⟨o', by rw [upd_ne hne]; exact h⟩)
  · exact .inr h

/-! ### the rules that ask the written part, where the context is bound -/
section
variable {X : Cx} {K : PySem.W.Frag}
theorem ix_listK (h : X.K = K) : IxR X (rIxL K) := by subst h; exact ix_list
theorem ix_tupK (h : X.K = K) : IxR X (rIxT K) := by subst h; exact ix_tup
theorem sl_listK (h : X.K = K) : SlR X (rSlL K) := by subst h; exact sl_list
theorem call_isiK (h : X.K = K) : CallR X (.builtin "isinstance") (rIsi K) := by subst h; exact call_isi
theorem cr_maxK (h : X.K = K) (hc : X.calm = true) : CallR X (.builtin "max") (rMax K) := by subst h; exact cr_max hc
theorem cr_sumK (h : X.K = K) (hc : X.calm = true) : CallR X (.builtin "sum") (rSum K) := by subst h; exact cr_sum hc
theorem call_len_seqK (h : X.K = K) : CallR X (.builtin "len") (fun xs H Q => ∃ p ys, xs = [.ref p] ∧ (SqL K H p ys ∨ SqT K H p ys) ∧ Q (.int ys.length) H) := by subst h; exact call_len_seq
theorem call_list_ofK (h : X.K = K) : CallR X (.type "list") (fun xs H Q => ∃ p ys, xs = [.ref p] ∧ (SqL K H p ys ∨ SqT K H p ys) ∧ ∀ l, H l = none → Q (.ref l) (upd H l (.lst ys))) := by subst h; exact call_list_of
theorem pe_fldK {e : Expr} {f : Str} {ta : TE} {pos : Pos} (h : X.K = K) (he : PE X e ta) (hb : attributeBase e f X.env (eval e X.env) = eval e X.env) : PE X (.Attribute e f pos) (tFld K ta f) := by subst h; exact pe_fld he hb
end

/-- x is True, x a bool or None -/
def rIsBN : R2 := fun x y H Q => ∃ b : Bool, y = .bl b ∧ (x = .non ∨ ∃ a, x = .bl a) ∧ Q (.bl (decide (x = .bl b))) H
def rNotBN : R2 := fun x y H Q => ∃ b : Bool, y = .bl b ∧ (x = .non ∨ ∃ a, x = .bl a) ∧ Q (.bl (!decide (x = .bl b))) H
section
variable {X : Cx}
theorem op_isBN : OpR X (compareOp .Is) rIsBN := by
  intro pins s σ H x y v u Q I rx ry h
  obtain ⟨b, rfl, hx, q⟩ := h
  cases (show u = Value.bool b from ry)
  rcases hx with rfl | ⟨a, rfl⟩
  · cases (show v = Value.none from rx)
    exact wpAny_is_other rfl (fun z => nomatch z) ⟨.bl false, H, I, rfl, by simpa using q⟩
  · cases (show v = Value.bool a from rx)
    by_cases e : a = b
    · subst e
      exact wpAny_is_self rfl ⟨.bl true, H, I, rfl, by simpa using q⟩
    · exact wpAny_is_other rfl (fun z => e (Value.bool.inj z)) ⟨.bl false, H, I, rfl, by simpa [e] using q⟩
theorem op_notBN : OpR X (compareOp .IsNot) rNotBN := by
  intro pins s σ H x y v u Q I rx ry h
  obtain ⟨b, rfl, hx, q⟩ := h
  cases (show u = Value.bool b from ry)
  rcases hx with rfl | ⟨a, rfl⟩
  · cases (show v = Value.none from rx)
    exact wpAny_isNot_other rfl (fun z => nomatch z) ⟨.bl true, H, I, rfl, by simpa using q⟩
  · cases (show v = Value.bool a from rx)
    by_cases e : a = b
    · subst e
      exact wpAny_isNot_self rfl ⟨.bl false, H, I, rfl, by simpa using q⟩
    · exact wpAny_isNot_other rfl (fun z => e (Value.bool.inj z)) ⟨.bl true, H, I, rfl, by simpa [e] using q⟩
end

/-- x[i], x a list or a tuple -/
def rIxS2 (K : PySem.W.Frag) : R2 := fun x y H Q => rIxL K x y H Q ∨ rIxT K x y H Q
theorem ix_seq {X : Cx} : IxR X (rIxS2 X.K) := by
  intro value slice pins s σ H x y v u Q I rx ry h hs
  rcases h with h | h
  · exact ix_list value slice pins s σ H x y v u Q I rx ry h hs
  · exact ix_tup value slice pins s σ H x y v u Q I rx ry h hs
theorem ix_seqK {X : Cx} {K : PySem.W.Frag} (h : X.K = K) : IxR X (rIxS2 K) := by subst h; exact ix_seq
/-- a def of which nothing is promised -/
theorem fnok_no {P : Program} {w : World} {K : PySem.W.Frag} {mg : Str → Option Value} {base : Heap} {CX : CXT} {k : Nat} {f : Addr} {fd : FuncData} {ps : List Str} {sp : Sp} (h : ∀ vs H Q E, ¬ sp vs H Q E) : FnOk P w K mg base CX k f fd ps sp :=
  ⟨fun vs H Q E q => absurd q (h vs H Q E), fun _ _ _ H _ _ vs Q E _ _ _ _ q => absurd q (h vs H Q E)⟩

/-! ### own classes, by name -/
structure DMk (P : Program) (w : World) (K : PySem.W.Frag) (mg : Str → Option Value) (base : Heap) (CX : CXT) (k : Nat) (x : Str) (C : Addr) (sp : Sp) : Prop where
  ex : ∃ (f : Addr) (fd : FuncData) (ps : List Str), Mk K C f ∧ FnOk P w K mg base CX k f fd ps sp ∧ mg x = some (.ref C) ∧ Binds K fd ps []
structure DMe (P : Program) (w : World) (K : PySem.W.Frag) (mg : Str → Option Value) (base : Heap) (CX : CXT) (k : Nat) (C : Addr) (m : Str) (sp : Sp) : Prop where
  c : Cls K C
  ex : ∃ (f : Addr) (fd : FuncData) (ps : List Str), Meth K C m f ∧ FnOk P w K mg base CX k f fd ps sp ∧ Binds K fd ps []
section
variable {X : Cx} {CX : CXT} {x : Str} {p pos : Pos} {e : Expr} {es : List Expr} {t : TA} {sp : Sp} {k j : Nat} {E : XK} {C : Addr}
theorem pe_dmake (c : DMk X.prog X.w X.K X.mg X.base CX k x C sp) (hr : Room j X.A) (hk : k + 1 ≤ j) (hg : Gl X x) (hx : Passes CX X E) (ha : PA X (e :: es) t)
    (hdb : (x == ("__debug__" : Str)) = false := by decide) (he : starEach (e :: es) X.env = (false, eval e X.env) :: starEach es X.env := by rfl) (hpl : (backTo pos (starEach es X.env)).any (·.1) = false := by rfl) :
    PE X (.Call (.Name x p) (e :: es) [] pos) (tMake C sp [] E t) := by
  obtain ⟨f, fd, ps, M, F, hm, b⟩ := c.ex
  exact pe_make M F (hr.mono hk) hg hm b .nil hx ha hdb he hpl
end
section
variable {X : Cx} {CX : CXT} {x : Str} {p pos : Pos} {sp : Sp} {k j : Nat} {E : XK}
theorem pe_d0 (c : Dn X.prog X.w X.K X.mg X.base CX k x sp) (hr : Room j X.A) (hk : k ≤ j) (hg : Gl X x) (hx : Passes CX X E)
    (hdb : (x == ("__debug__" : Str)) = false := by decide) : PE X (.Call (.Name x p) [] [] pos) (tCall sp [] E tNil) := by
  obtain ⟨f, fd, ps, F, hm, kp, b⟩ := c.ex
  exact pe_call0 F (hr.mono hk) hg hm kp b .nil hx hdb
end
theorem putF_len {f : Str} {v : V} : ∀ fs : List (Str × V), (putF f v fs).length ≤ fs.length + 1
  | [] => Nat.le_refl _
  | (g, x) :: r => by
    unfold putF
    split
    · exact Nat.le_succ _
    · rw [List.length_cons, List.length_cons]
      have := putF_len (f := f) (v := v) r
      omega
section
variable {X : Cx} {CX : CXT} {m : Str} {apos pos : Pos} {o e : Expr} {es : List Expr} {ta : TE} {t : TA} {sp : Sp} {k j : Nat} {E : XK} {C : Addr}
theorem pe_dmeth {pl : Sem Bool} (c : DMe X.prog X.w X.K X.mg X.base CX k C m sp) (hr : Room j X.A) (hk : k ≤ j) (he : PE X o ta) (hx : Passes CX X E) (ha : PA X (e :: es) t)
    (hst : starEach (e :: es) X.env = (false, eval e X.env) :: starEach es X.env := by rfl) (hpl : (backTo pos (starEach es X.env)).any (·.1) = false := by rfl)
    (ht : eval (.Call (.Attribute o m apos) (e :: es) [] pos) X.env = (do
      let ov ← eval o X.env
      standAt apos.atName
      let (f, first) ← holding [ov] (getMethod ov m pl)
      callWith pos f first (backTo pos (starEach (e :: es) X.env)) (backToKw pos (keywordEach [] X.env))) := by rfl) :
    PE X (.Call (.Attribute o m apos) (e :: es) [] pos) (tMeth C m sp [] E ta t) := by
  obtain ⟨f, fd, ps, M, F, b⟩ := c.ex
  exact pe_meth he c.c M F (hr.mono hk) b .nil hx ha hst hpl ht
theorem pe_dmeth0 {pl : Sem Bool} (c : DMe X.prog X.w X.K X.mg X.base CX k C m sp) (hr : Room j X.A) (hk : k ≤ j) (he : PE X o ta) (hx : Passes CX X E)
    (ht : eval (.Call (.Attribute o m apos) [] [] pos) X.env = (do
      let ov ← eval o X.env
      standAt apos.atName
      let (f, first) ← holding [ov] (getMethod ov m pl)
      callWith pos f first (backTo pos (starEach [] X.env)) (backToKw pos (keywordEach [] X.env))) := by rfl) :
    PE X (.Call (.Attribute o m apos) [] [] pos) (tMeth C m sp [] E ta tNil) := by
  obtain ⟨f, fd, ps, M, F, b⟩ := c.ex
  exact pe_meth0 he c.c M F (hr.mono hk) b .nil hx ht
end
/-- an object of the class at C whose field n is v -/
def Fld (K : PySem.W.Frag) (H : Hp) (a : Addr) (n : Str) (v : V) : Prop := ∃ C dx fs, H a = some (.ins C dx fs) ∧ Cls K C ∧ NoAttr K C n ∧ fs.lookup n = some v
theorem Fld.same {H H' : Hp} {a : Addr} {n : Str} {v : V} (e : Same H H') (h : Fld K H a n v) : Fld K H' a n v := let ⟨C, dx, fs, h1, h2⟩ := h; ⟨C, dx, fs, e _ _ h1, h2⟩
end BB

set_option maxHeartbeats 4000000
/-! Buys: purchases, links, steps, Data objects. -/
namespace BB
open PySem PySem.Spec PyProof.Rows L2
abbrev Buy := List Rat × List Rat
def bD (b : Buy) : PyData := .tuple [fsD b.1, fsD b.2]
def bsD (bs : List Buy) : PyData := .list (bs.map bD)
abbrev Lnk := Nat × Nat × Bool
def lD (l : Lnk) : PyData := .tuple [.int (l.1 : Int), .int (l.2.1 : Int), .bool l.2.2]
def lsD (ls : List (Nat × Nat × Bool)) : PyData := .list (ls.map lD)
structure okBuy (g : Nat) (b : Buy) : Prop where
  l1 : b.1.length = g
  l2 : b.2.length = g
  p : ∀ r ∈ b.1, 0 < r ∧ Sz 50 r
  a : ∀ r ∈ b.2, 0 ≤ r ∧ Sz 80 r
  n : ∃ r ∈ b.2, 0 < r
/-- the turn's price and amount -/
def midP (K : PySem.W.Frag) (a a2 pP pA : Addr) (g kd i : Int) (H' : Hp) (σ : L2.St) (H2 : Hp) : Prop := Same H' H2 ∧ ∃ (p7 p8 : Addr) (r s : Rat), σ = [some (.ref a), some (.ref a2), some (.int g), some (.int kd), some (.ref pP), some (.ref pA), some (.int i), some (.ref p7), some (.ref p8), none] ∧ IsF K H2 p7 r ∧ 0 < r ∧ Sz 50 r ∧ IsF K H2 p8 s ∧ 0 ≤ s ∧ Sz 80 s
/-- both lists, as they grow -/
def growP (K : PySem.W.Frag) (a a2 pP pA : Addr) (g : Nat) (kd : Int) (H : Hp) (i : Nat) (σ : L2.St) (H2 : Hp) : Prop := Same H H2 ∧ pP ≠ pA ∧ ∃ (y6 y7 y8 : Option V) (ps as : List Rat), σ = [some (.ref a), some (.ref a2), some (.int g), some (.int kd), some (.ref pP), some (.ref pA), y6, y7, y8, none] ∧ Gr K H H2 [pP, pA] pP (ps.map fD) ∧ Gr K H H2 [pP, pA] pA (as.map fD) ∧ ps.length = i ∧ as.length = i ∧ (∀ r ∈ ps, 0 < r ∧ Sz 50 r) ∧ (∀ r ∈ as, 0 ≤ r ∧ Sz 80 r)
structure okData (g most linked : Nat) (bs : List Buy) (ls : List (Nat × Nat × Bool)) : Prop where
  g1 : 1 ≤ g
  g4 : g ≤ 4
  n : bs.length ≤ most
  b : ∀ b ∈ bs, okBuy g b
  m : ls.length ≤ linked
  l : ∀ l ∈ ls, l.1 < bs.length ∧ l.2.1 < bs.length
def dataD (g : Nat) (bs : List Buy) (ls : List (Nat × Nat × Bool)) : PyData := .tuple [.int (g : Int), bsD bs, lsD ls]
/-- a pair, new, that tells r -/
def rP (K : PySem.W.Frag) (H : Hp) (r : Rat) (n : Nat) (Q : VK) : Prop := ∀ (p q : Int) (H' : Hp) (t : Addr), 0 < q → Rat.divInt p q = r → p.natAbs < 2 ^ n → q.natAbs < 2 ^ n → Same H H' → H t = none → SqT K H' t [.int p, .int q] → Q (.ref t) H'
theorem dot_step {p q : Int} {r s c : Rat} (hq : 0 < q) (h : Rat.divInt p q = c) : Rat.divInt (p * ((r.den : Int) * (s.den : Int)) + r.num * s.num * q) (q * ((r.den : Int) * (s.den : Int))) = c + r * s := by
  rw [← h, ← rat_mul r s, Rat.divInt_add_divInt _ _ (Int.ne_of_gt hq) (Int.ne_of_gt (den_mul_pos r s))]
theorem buy_of {K : PySem.W.Frag} {H : Hp} {v : V} {b : Buy} (h : Dp K H v (bD b)) : ∃ t p q, v = .ref t ∧ SqT K H t [.ref p, .ref q] ∧ FsAt K H p b.1 ∧ FsAt K H q b.2 := by
  obtain ⟨t, xs, rfl, ht, hx⟩ := dp_tup h
  obtain ⟨x, y, rfl, h1, h2⟩ := dpa_two hx
  obtain ⟨p, rfl, hp⟩ := fsAt_of h1
  obtain ⟨q, rfl, hq⟩ := fsAt_of h2
  exact ⟨t, p, q, rfl, ht, hp, hq⟩
theorem buys_get {K : PySem.W.Frag} {H : Hp} {v : V} {bs : List Buy} {i : Nat} {b : Buy} (h : Dp K H v (bsD bs)) (e : bs[i]? = some b) : ∃ a xs t p q, v = .ref a ∧ SqL K H a xs ∧ atI xs (i : Int) = some (.ref t) ∧ SqT K H t [.ref p, .ref q] ∧ FsAt K H p b.1 ∧ FsAt K H q b.2 := by
  obtain ⟨a, xs, rfl, hs, hx⟩ := dp_lst h
  obtain ⟨x, ex, hd⟩ := dpa_get (i := i) hx (by rw [List.getElem?_map, e]; rfl)
  obtain ⟨t, p, q, rfl, ht, hp, hq⟩ := buy_of hd
  exact ⟨a, xs, t, p, q, rfl, hs, atI_nat ex, ht, hp, hq⟩
theorem sub_np {a b : Rat} : (a - b ≤ 0 ↔ a ≤ b) ∧ (a - b < 0 ↔ a < b) := by
  constructor <;> constructor <;> intro h <;> grind
def gapR (b : Buy) (ss : List Rat) : Rat := dotR b.1 ss - dotR b.1 b.2
theorem rP_lt {p q : Int} {r : Rat} (hq : 0 < q) (h : Rat.divInt p q = r) : (p < 0 ↔ r < 0) ∧ (p ≤ 0 ↔ r ≤ 0) := by
  subst h
  have h1 := Rat.divInt_nonneg_iff_of_pos_right (a := p) hq
  have h2 : 0 ≤ Rat.divInt (-p) q ↔ 0 ≤ -p := Rat.divInt_nonneg_iff_of_pos_right hq
  rw [← Rat.neg_divInt] at h2
  have h3 : (0 : Rat) ≤ -(Rat.divInt p q) ↔ Rat.divInt p q ≤ 0 := by
    constructor
    · intro h; have := Rat.neg_le_neg h; simpa using this
    · intro h; have := Rat.neg_le_neg h; simpa using this
  refine ⟨?_, ?_⟩
  · rw [← Rat.not_le, h1]; omega
  · rw [← h3, h2]; omega
def opV : Option Bool → V
  | none => .non
  | some b => .bl b
def linkR (i j : Nat) (o : Option Bool) (l : Lnk) : Option Bool := if l.1 = i ∧ l.2.1 = j then some (l.2.2 || decide (o = some true)) else o
def gapO (r : Rat) : Option Bool := if r ≤ 0 then some (decide (r < 0)) else none
def baseR (bs : List Buy) (i j : Nat) : Option Bool := if i = j then none else match bs[i]?, bs[j]? with
  | some b, some c => gapO (gapR b c.2)
  | _, _ => none
def stepR (bs : List Buy) (ls : List Lnk) (i j : Nat) : Option Bool := ls.foldl (linkR i j) (baseR bs i j)
def opD : Option Bool → PyData
  | none => .none
  | some b => .bool b
def tabD (t : List (List (Option Bool))) : PyData := .list (t.map fun r => .list (r.map opD))
def stepsR (bs : List Buy) (ls : List Lnk) : List (List (Option Bool)) := (List.range bs.length).map fun i => (List.range bs.length).map fun j => stepR bs ls i j
theorem dp_op {K : PySem.W.Frag} {H : Hp} : ∀ o : Option Bool, Dp K H (opV o) (opD o)
  | none => .non
  | some b => .bl b
/-- a Data object -/
def DataAt (K : PySem.W.Frag) (H : Hp) (a : Addr) (g : Nat) (bs : List Buy) (ls : List Lnk) : Prop := Fld K H a "goods" (.int (g : Int)) ∧ ∃ v w, Fld K H a "buys" v ∧ Dp K H v (bsD bs) ∧ Fld K H a "links" w ∧ Dp K H w (lsD ls)
theorem DataAt.same {K : PySem.W.Frag} {H H' : Hp} {a : Addr} {g : Nat} {bs : List Buy} {ls : List Lnk} (e : Same H H') (h : DataAt K H a g bs ls) : DataAt K H' a g bs ls :=
  let ⟨h1, v, w, h2, h3, h4, h5⟩ := h; ⟨h1.same e, v, w, h2.same e, dp_same e h3, h4.same e, dp_same e h5⟩
theorem plain_f (r : Rat) : plain 2 (fD r) := ⟨(by decide : (2 : Nat) ≤ 1000000), fun d hd => by
  rcases List.mem_cons.mp hd with rfl | hd
  · trivial
  · rw [List.mem_singleton.mp hd]; trivial⟩
theorem plain_fs {rs : List Rat} (h : rs.length ≤ 1000000) : plain 3 (fsD rs) := ⟨(by rw [List.length_map]; exact h), fun d hd => by
  obtain ⟨r, _, rfl⟩ := List.mem_map.mp hd
  exact plain_f r⟩
theorem plain_b {b : Buy} (h1 : b.1.length ≤ 1000000) (h2 : b.2.length ≤ 1000000) : plain 4 (bD b) := ⟨(by decide : (2 : Nat) ≤ 1000000), fun d hd => by
  rcases List.mem_cons.mp hd with rfl | hd
  · exact plain_fs h1
  · rw [List.mem_singleton.mp hd]; exact plain_fs h2⟩
theorem plain_bs {g : Nat} {bs : List Buy} (hg : g ≤ 1000000) (h : bs.length ≤ 1000000) (ok : ∀ b ∈ bs, okBuy g b) : plain 5 (bsD bs) := ⟨(by rw [List.length_map]; exact h), fun d hd => by
  obtain ⟨b, hb, rfl⟩ := List.mem_map.mp hd
  exact plain_b (by rw [(ok b hb).l1]; exact hg) (by rw [(ok b hb).l2]; exact hg)⟩
theorem plain_l (l : Lnk) : plain 2 (lD l) := ⟨(by decide : (3 : Nat) ≤ 1000000), fun d hd => by
  rcases List.mem_cons.mp hd with rfl | hd
  · trivial
  rcases List.mem_cons.mp hd with rfl | hd
  · trivial
  rw [List.mem_singleton.mp hd]; trivial⟩
theorem plain_ls {ls : List Lnk} (h : ls.length ≤ 1000000) : plain 3 (lsD ls) := ⟨(by rw [List.length_map]; exact h), fun d hd => by
  obtain ⟨l, _, rfl⟩ := List.mem_map.mp hd
  exact plain_l l⟩
theorem op_of {K : PySem.W.Frag} {H : Hp} {v : V} : ∀ {o : Option Bool}, Dp K H v (opD o) → v = opV o
  | none, h => dp_non h
  | some _, h => dp_bl h
theorem tab_get {K : PySem.W.Frag} {H : Hp} {v : V} {T : List (List (Option Bool))} {i j : Nat} {r : List (Option Bool)} {o : Option Bool} (h : Dp K H v (tabD T)) (e : T[i]? = some r) (f : r[j]? = some o) :
    ∃ a xs b ys, v = .ref a ∧ SqL K H a xs ∧ atI xs (i : Int) = some (.ref b) ∧ SqL K H b ys ∧ atI ys (j : Int) = some (opV o) := by
  obtain ⟨a, xs, rfl, hs, hx⟩ := dp_lst h
  obtain ⟨x, ex, hd⟩ := dpa_get (i := i) hx (by rw [List.getElem?_map, e]; rfl)
  obtain ⟨b, ys, rfl, ht, hy⟩ := dp_lst hd
  obtain ⟨y, ey, he⟩ := dpa_get (i := j) hy (by rw [List.getElem?_map, f]; rfl)
  cases op_of he
  exact ⟨a, xs, b, ys, rfl, hs, atI_nat ex, ht, atI_nat ey⟩
/-- the steps that a table tells -/
def tabS (T : List (List (Option Bool))) (i j : Nat) : Option Bool := match T[i]? with
  | some r => match r[j]? with
    | some o => o
    | none => none
  | none => none
theorem steps_get {bs : List Buy} {ls : List Lnk} {i j : Nat} (hi : i < bs.length) (hj : j < bs.length) : (stepsR bs ls)[i]? = some ((List.range bs.length).map fun j => stepR bs ls i j) ∧ ((List.range bs.length).map fun j => stepR bs ls i j)[j]? = some (stepR bs ls i j) := by
  refine ⟨?_, ?_⟩
  · unfold stepsR
    rw [List.getElem?_map, List.getElem?_range hi]
    rfl
  · rw [List.getElem?_map, List.getElem?_range hj]
    rfl
theorem grow_l {K : PySem.W.Frag} {H₀ H : Hp} {Ds : List Addr} {v : V} {l : Lnk} (e : Same H₀ H) (hD : ∀ D ∈ Ds, soft (H D) = false) (h : Dp K H v (lD l)) : Dp K (but (fresh H₀ H) Ds) v (lD l) := by
  obtain ⟨t, xs, rfl, ht, hx⟩ := dp_tup h
  obtain ⟨x, y, z, rfl, h1, h2, h3⟩ := dpa_three hx
  cases dp_int h1
  cases dp_int h2
  cases dp_bl h3
  exact .tup (sqt_grow e hD ht) (.cons (.int _) (.cons (.int _) (.cons (.bl _) .nil)))
theorem grow_ls {K : PySem.W.Frag} {H₀ H : Hp} {Ds : List Addr} (e : Same H₀ H) (hD : ∀ D ∈ Ds, soft (H D) = false) : ∀ {ls : List Lnk} {vs : List V}, DpAll K H vs (ls.map lD) → DpAll K (but (fresh H₀ H) Ds) vs (ls.map lD)
  | [], _, h => by cases h; exact .nil
  | l :: ls, _, h => by
    cases h with
    | cons a b => exact .cons (grow_l e hD a) (grow_ls e hD b)
/-- a Data object, its lists new -/
def DataN (K : PySem.W.Frag) (H₀ H : Hp) (a : Addr) (g : Nat) (bs : List Buy) (ls : List Lnk) : Prop := Fld K H a "goods" (.int (g : Int)) ∧ ∃ v w, Fld K H a "buys" v ∧ Dp K (fresh H₀ H) v (bsD bs) ∧ Fld K H a "links" w ∧ Dp K (fresh H₀ H) w (lsD ls)
theorem DataN.old {K : PySem.W.Frag} {H₀ H₁ H : Hp} {a : Addr} {g : Nat} {bs : List Buy} {ls : List Lnk} (e : Same H₀ H₁) (h : DataN K H₁ H a g bs ls) : DataN K H₀ H a g bs ls :=
  let ⟨h1, v, w, h2, h3, h4, h5⟩ := h; ⟨h1, v, w, h2, dp_same (fresh_old e) h3, h4, dp_same (fresh_old e) h5⟩
theorem DataN.at {K : PySem.W.Frag} {H₀ H : Hp} {a : Addr} {g : Nat} {bs : List Buy} {ls : List Lnk} (h : DataN K H₀ H a g bs ls) : DataAt K H a g bs ls :=
  let ⟨h1, v, w, h2, h3, h4, h5⟩ := h; ⟨h1, v, w, h2, dp_same fresh_sub h3, h4, dp_same fresh_sub h5⟩
theorem tab_at {K : PySem.W.Frag} {H : Hp} {xs : List V} {T : List (List (Option Bool))} {i j : Nat} (hx : DpAll K H xs (T.map fun r => PyData.list (r.map opD))) (hi : i < T.length) (hr : ∀ r ∈ T, j < r.length) :
    ∃ b ys, atI xs (i : Int) = some (.ref b) ∧ SqL K H b ys ∧ atI ys (j : Int) = some (opV (tabS T i j)) := by
  have e : T[i]? = some T[i] := List.getElem?_eq_getElem hi
  have hj := hr _ (List.getElem_mem hi)
  have f : T[i][j]? = some T[i][j] := List.getElem?_eq_getElem hj
  obtain ⟨x, ex, hd⟩ := dpa_get (i := i) hx (by rw [List.getElem?_map, e]; rfl)
  obtain ⟨b, ys, rfl, ht, hy⟩ := dp_lst hd
  obtain ⟨y, ey, he⟩ := dpa_get (i := j) hy (by rw [List.getElem?_map, f]; rfl)
  cases op_of he
  refine ⟨b, ys, atI_nat ex, ht, ?_⟩
  unfold tabS
  rw [e]
  simp only
  rw [f]
  exact atI_nat ey
/-! ### a table of answers, as it is filled -/
structure TabAt (K : PySem.W.Frag) (H₀ H : Hp) (pT : Addr) (rows : List Addr) (T : List (List (Option Bool))) : Prop where
  new : H₀ pT = none
  same : Same H₀ H
  len : rows.length = T.length
  inj : ∀ (m m' : Nat) (a : Addr), rows[m]? = some a → rows[m']? = some a → m = m'
  apart : ∀ a ∈ rows, a ≠ pT ∧ H₀ a = none
  tab : H pT = some (.lst (rows.map V.ref))
  row : ∀ (m : Nat) (a : Addr) (r : List (Option Bool)), rows[m]? = some a → T[m]? = some r → H a = some (.lst (r.map opV))
theorem TabAt.grown {K : PySem.W.Frag} {H₀ H H' : Hp} {pT : Addr} {rows : List Addr} {T : List (List (Option Bool))} (t : TabAt K H₀ H pT rows T) (e : Same H H') : TabAt K H₀ H' pT rows T :=
  ⟨t.new, t.same.trans e, t.len, t.inj, t.apart, e _ _ t.tab, fun m a r h1 h2 => e _ _ (t.row m a r h1 h2)⟩
theorem TabAt.start {K : PySem.W.Frag} {H : Hp} {D : Addr} (h : H D = none) : TabAt K H (upd H D (.lst [])) D [] [] :=
  ⟨h, same_upd h, rfl, (fun m m' a h1 => by simp at h1), (fun a ha => nomatch ha), upd_same, (fun m a r h1 => by simp at h1)⟩
theorem TabAt.push {K : PySem.W.Frag} {H₀ H : Hp} {pT D : Addr} {rows : List Addr} {T : List (List (Option Bool))} {r : List (Option Bool)} (t : TabAt K H₀ H pT rows T) (n0 : H₀ D = none) (nD : D ≠ pT) (nr : D ∉ rows) (e : H D = some (.lst (r.map opV))) : TabAt K H₀ (upd H pT (.lst (rows.map V.ref ++ [.ref D]))) pT (rows ++ [D]) (T ++ [r]) := by
  have hl := t.len
  refine ⟨t.new, same_mut t.same t.new, by rw [List.length_append, List.length_append, t.len]; rfl, fun m m' a h1 h2 => ?_, fun a ha => ?_, by rw [upd_same, List.map_append]; rfl, fun m a q h1 h2 => ?_⟩
  · rw [List.getElem?_append] at h1 h2
    split at h1 <;> split at h2
    · exact t.inj m m' a h1 h2
    · rename_i k1 k2
      have h3 := List.mem_of_getElem? h2
      rw [List.mem_singleton.mp h3] at h1
      exact absurd (List.mem_of_getElem? h1) nr
    · rename_i k1 k2
      have h3 := List.mem_of_getElem? h1
      rw [List.mem_singleton.mp h3] at h2
      exact absurd (List.mem_of_getElem? h2) nr
    · have k1 := (List.getElem?_eq_some_iff.mp h1).1
      have k2 := (List.getElem?_eq_some_iff.mp h2).1
      rw [List.length_singleton] at k1 k2
      omega
  · rcases List.mem_append.mp ha with ha | ha
    · exact t.apart a ha
    · rw [List.mem_singleton.mp ha]; exact ⟨nD, n0⟩
  · rw [List.getElem?_append] at h1 h2
    split at h1
    · rename_i k
      rw [if_pos (by omega)] at h2
      rw [upd_ne (t.apart a (List.mem_of_getElem? h1)).1]
      exact t.row m a q h1 h2
    · rename_i k
      rw [if_neg (by omega)] at h2
      have h3 := List.mem_of_getElem? h1
      have h4 := List.mem_of_getElem? h2
      rw [List.mem_singleton.mp h3, List.mem_singleton.mp h4, upd_ne nD]
      exact e
theorem TabAt.put {K : PySem.W.Frag} {H₀ H : Hp} {pT a : Addr} {rows : List Addr} {T : List (List (Option Bool))} {r : List (Option Bool)} {m k : Nat} {o : Option Bool} (t : TabAt K H₀ H pT rows T) (h1 : rows[m]? = some a) (h2 : T[m]? = some r) : TabAt K H₀ (upd H a (.lst ((r.map opV).set k (opV o)))) pT rows (T.set m (r.set k o)) := by
  have ha := t.apart a (List.mem_of_getElem? h1)
  refine ⟨t.new, same_mut t.same ha.2, by rw [List.length_set, t.len], t.inj, t.apart, by rw [upd_ne ha.1.symm]; exact t.tab, fun m' a' r' g1 g2 => ?_⟩
  rw [List.getElem?_set] at g2
  by_cases e : m = m'
  · subst e
    rw [if_pos rfl, if_pos (List.getElem?_eq_some_iff.mp h2).1] at g2
    rw [h1] at g1
    cases Option.some.inj g1
    cases Option.some.inj g2
    rw [upd_same, List.map_set]
  · rw [if_neg e] at g2
    rw [upd_ne (fun z => e (t.inj m m' a h1 (by rw [← z]; exact g1)))]
    exact t.row m' a' r' g1 g2
theorem TabAt.done {K : PySem.W.Frag} {H₀ H : Hp} {pT : Addr} {rows : List Addr} {T : List (List (Option Bool))} (t : TabAt K H₀ H pT rows T) : Dp K (fresh H₀ H) (.ref pT) (tabD T) := by
  have key : ∀ (rows : List Addr) (T : List (List (Option Bool))), rows.length = T.length → (∀ a ∈ rows, H₀ a = none) → (∀ (m : Nat) (a : Addr) (r : List (Option Bool)), rows[m]? = some a → T[m]? = some r → H a = some (.lst (r.map opV))) → DpAll K (fresh H₀ H) (rows.map V.ref) (T.map fun r => PyData.list (r.map opD)) := by
    intro rows
    induction rows with
    | nil =>
      intro T hl _ _
      cases T with
      | nil => exact .nil
      | cons _ _ => cases hl
    | cons a rows ih =>
      intro T hl h0 hr
      cases T with
      | nil => cases hl
      | cons r T =>
        refine .cons (.lst (SqL.of (by rw [fresh_at (h0 a List.mem_cons_self)]; exact hr 0 a r rfl rfl)) ?_) (ih T (Nat.succ.inj hl) (fun b hb => h0 b (List.mem_cons_of_mem _ hb)) fun m b q h1 h2 => hr (m + 1) b q h1 h2)
        induction r with
        | nil => exact .nil
        | cons o r ih2 => exact .cons (dp_op o) (by
            clear ih hr h0 hl ih2
            induction r with
            | nil => exact .nil
            | cons o r ih3 => exact .cons (dp_op o) ih3)
  exact .lst (SqL.of (by rw [fresh_at t.new]; exact t.tab)) (key rows T t.len (fun a ha => (t.apart a ha).2) t.row)
/-! ### chains -/
/-- from one to the next, along xs: none where no step is, otherwise whether one is strict -/
def chainS (S : Nat → Nat → Option Bool) : Bool → List Int → Option Bool
  | st, [] => some st
  | st, [_] => some st
  | st, x :: y :: r => match S x.toNat y.toNat with
    | none => none
    | some b => chainS S (st || b) (y :: r)
def inRange (n : Nat) (xs : List Int) : Bool := xs.all fun x => decide (0 ≤ x) && decide (x < n)
def chainR (S : Nat → Nat → Option Bool) (n : Nat) (xs : List Int) : Option Bool := if xs = [] then none else if inRange n xs = true then chainS S false xs else none
/-- the chain so far: its first k steps -/
theorem chainS_drop {S : Nat → Nat → Option Bool} : ∀ {xs : List Int} {st : Bool} {x y : Int}, xs[0]? = some x → xs[1]? = some y → chainS S st xs = match S x.toNat y.toNat with
    | none => none
    | some b => chainS S (st || b) xs.tail
  | [], _, _, _, h, _ => by simp at h
  | [_], _, _, _, _, h => by simp at h
  | a :: b :: r, st, x, y, h1, h2 => by
    cases Option.some.inj h1
    cases Option.some.inj h2
    rfl
theorem chainS_end {S : Nat → Nat → Option Bool} {st : Bool} : ∀ {xs : List Int}, xs.length ≤ 1 → chainS S st xs = some st
  | [], _ => rfl
  | [_], _ => rfl
  | _ :: _ :: _, h => by simp at h
end BB

set_option maxHeartbeats 4000000
/-! Gen: any of a generator expression over a list, its test by values and one captured name. -/
namespace BB
open PySem PySem.Spec PyProof.Rows L2
/-- the test of the j-th item of xs answers tr j, wherever what stood at the start still stands (but the table at P) -/
def ElL (X : Cx) (σ : L2.St) (G : Hp) (P : Addr) (scope : Scope) (x : Str) (elt : Expr) (xs : List V) (tr : Nat → Bool) : Prop :=
  ∀ (pn : List (Addr × Obj)) (u : Shared) (zs : List Value), Inv X pn σ G u → Vals xs zs →
    ∀ (ce : Env) (B : Around) (F' : Value → Shared → Prop) (j : Nat) (z : Value) (v : Shared) (mz : Str → Option Value), ce.scope = scope → ce.cells = cloFrom X.env.cells scope.names [] → ce.globals = X.env.globals → B.handled = none → B.depth ≤ X.A.depth + 1 → B.units ≤ X.A.units + 8 →
      zs[j]? = some z → v.heap.Ns ce.locals mz → mz x = some z → (∀ b o, b ≠ P → u.heap.get? b = some o → v.heap.get? b = some o) → wpAny (model X.prog X.w) B (eval elt ce) (fun r t => r = .bool (tr j) ∧ Keeps v t) F' v
/-- any(test for x in e), e a list -/
def tAnyL (X : Cx) (P : Addr) (scope : Scope) (x : Str) (elt : Expr) (te : TE) : TE := fun σ H Q => te σ H fun v G => ∃ (l : Addr) (xs : List V) (tr : Nat → Bool), v = .ref l ∧ SqL X.K G l xs ∧ GxR.TabG G P ∧ ElL X σ G P scope x elt xs tr ∧ ∀ G2, GxR.Tabbed P G G2 → Q (.bl ((List.range xs.length).any tr)) G2
def tAllL (X : Cx) (P : Addr) (scope : Scope) (x : Str) (elt : Expr) (te : TE) : TE := fun σ H Q => te σ H fun v G => ∃ (l : Addr) (xs : List V) (tr : Nat → Bool), v = .ref l ∧ SqL X.K G l xs ∧ GxR.TabG G P ∧ ElL X σ G P scope x elt xs tr ∧ ∀ G2, GxR.Tabbed P G G2 → Q (.bl ((List.range xs.length).all tr)) G2
/-- the generator at g, about to be walked -/
def SetL (X : Cx) (pn : List (Addr × Obj)) (σ : L2.St) (G : Hp) (P : Addr) (n : Nat) (tr : Nat → Bool) (g : Addr) (v : Shared) : Prop :=
  ∃ (fp wr : List Addr) (M : Array GenState → Array GenState → Prop) (F : Nat → Value → Prop) (St : Nat → Shared → Prop), WalksS X.prog X.w X.A.in1 g fp wr M n F St ∧ St 0 v ∧ TruthOf X.prog X.w X.A.in1 F tr ∧ ∀ v', Moved wr M v v' → ∃ G2, GxR.Tabbed P G G2 ∧ Inv X pn σ G2 v'
section
variable {X : Cx} {pn : List (Addr × Obj)} {σ : L2.St} {H : Hp} {s : Shared}
theorem gen_list {cd P : Addr} {elt iter : Expr} {x : Str} {px gpos : Pos} {scope : Scope} {te : TE} {k : Nat} {Q' : Value → Shared → Prop} {R : List V → (Nat → Bool) → Hp → Prop}
    (room : Room k X.A) (tb : GxR.TabB X.base X.mg cd P) (code : X.env.code = .ref cd) (sc : GxR.GenS X.env scope x) (pi : PE X iter te) (fold : ∀ v, genFold iter X.env v = pure v) (I : Inv X pn σ H s)
    (h : te σ H fun v G => ∃ (l : Addr) (xs : List V) (tr : Nat → Bool), v = .ref l ∧ SqL X.K G l xs ∧ GxR.TabG G P ∧ ElL X σ G P scope x elt xs tr ∧ R xs tr G)
    (fin : ∀ xs tr G g v, R xs tr G → SetL X pn σ G P xs.length tr g v → Q' (.ref g) v) :
    wpAny (model X.prog X.w) X.A (eval (.GeneratorExp elt [⟨.Name x px, iter, [], 0⟩] scope gpos) X.env) Q' X.xe s := by
  have dep : X.A.depth < recursionLimit := by have := room.dp; omega
  refine wpAny_GeneratorExp_walksQD room.hd sc.co (closure_ok sc.free) sc.cell sc.dot sc.loc sc.kind dep (thn (pi.run pn s σ H _ I h) fun xv u ⟨v, G, J, rv, got⟩ => ?_) fold
  obtain ⟨l, xs, tr, rfl, sl, ⟨tab, hP, trip⟩, el, hR⟩ := got
  obtain rfl : xv = Value.ref l := rv
  obtain ⟨zs, vals, pl, zline⟩ := J.list sl
  have il := pl.isList
  have nz : zs.length = xs.length := vals.length.symm
  refine wpAny_pyIter_list il ?_
  generalize hob : ({ cls := .type "list_iterator", data := .fields #[.ref l, .int 0 0] } : Obj) = ob
  have it0 : (u.heap.push ob).IsListIter u.heap.objs.size l 0 := by subst hob; exact ⟨_, Heap.get?_push_size _ rfl, rfl, rfl⟩
  have ll : l < u.heap.objs.size := let ⟨_, e, _⟩ := _root_.id il; Heap.lt_size e
  have atP : u.heap.get? P = some { cls := .none, data := .fields tab } := J.hok P _ hP
  have ltP : P < u.heap.objs.size := Heap.lt_size atP
  have atP2 : (u.heap.push ob).get? P = some { cls := .none, data := .fields tab } := Heap.get?_push_of_some _ atP
  have hd2 : PySem.W.CodeHd (u.heap.push ob) cd P := tb.code.keeps fun b o e => Heap.get?_push_of_some _ (J.bk b o e)
  have nl2 : (u.heap.push ob).NoLimit := J.nolimit.push ob
  have go : ∀ (cv : Value) (h3 : Heap) (tk : Nat) (tab' : Array Value), Heap.ExtBut P (u.heap.push ob) h3 → (u.heap.push ob).objs.size ≤ h3.objs.size → h3.get? P = some { cls := .none, data := .fields tab' } → (∃ more, tab' = tab ++ more) → TriplesOk tab'.toList →
      wpAny (model X.prog X.w) X.A (builtinsFor X.env.globals X.env.builtins) (fun bi v4 =>
        ∃ Ia fp wr n₀ Pf St₀ pz F, Value.ref u.heap.objs.size = .ref Ia ∧ (∀ B : Around, B.handled = none → Walks X.prog X.w B Ia fp wr n₀ Pf St₀) ∧ St₀ 0 v4.heap ∧ (∀ b ∈ fp, b < v4.heap.objs.size) ∧ v4.heap.NoLimit ∧ cStatics ∉ wr ∧
          (∀ hr : Heap, (∀ b o, v4.heap.get? b = some o → hr.get? b = some o) → QuietGenD X.prog X.w (genEnv scope (cloFrom X.env.cells scope.names []) v4.heap.objs.size cv bi X.env) x [] elt (List.range v4.heap.objs.size) wr Pf pz F hr (X.A.depth + 1) (X.A.units + 8)) ∧
          (∀ a h₅ tk gs, gs.bare = true → v4.heap.objs.size < a → h₅.objs.size = a + 1 → (∀ b o, v4.heap.get? b = some o → h₅.get? b = some o) →
            WalksS X.prog X.w X.A.in4 a (a :: v4.heap.objs.size :: List.range v4.heap.objs.size) (v4.heap.objs.size :: wr) (GenOnlyQ v4.gens.size) (passing pz n₀ 0).length (fun j y => ∃ i, (passing pz n₀ 0)[j]? = some i ∧ F i y) (GenAt X.prog X.w X.A.in4 a v4.gens.size v4.heap.objs.size (List.range v4.heap.objs.size) wr pz n₀ F) →
            GenAt X.prog X.w X.A.in4 a v4.gens.size v4.heap.objs.size (List.range v4.heap.objs.size) wr pz n₀ F 0 { v4 with gens := v4.gens.push gs, toks := tk, heap := h₅ } → Q' (.ref a) { v4 with gens := v4.gens.push gs, toks := tk, heap := h₅ })) X.xe { u with heap := h3, toks := tk } := by
    intro cv h3 tk tab' ext sz3 at3 more3 trip3
    have cP : cStatics ≠ P := fun e => by
      obtain ⟨_, ns, _⟩ := J.nolimit
      obtain ⟨o', es, ep, ho, hd, _⟩ := ns
      rw [e, atP] at ho; cases ho; cases hd
    have cl : cStatics < u.heap.objs.size := let ⟨_, ns, _⟩ := J.nolimit; ns.lt
    have szp : (u.heap.push ob).objs.size = u.heap.objs.size + 1 := Heap.size_push ..
    have kp : ∀ b o, b ≠ P → u.heap.get? b = some o → h3.get? b = some o := fun b o hb e => ext b o hb (Heap.get?_push_of_some _ e)
    obtain ⟨bm, obm, m1, m2, m3, m4, m5, m6, m7, m8⟩ := tb.bm
    refine wpAny_builtinsFor (m := X.mg) (by rw [J.ok.glob]; exact ((J.mod.glob.keeps J.bk).push ob).extBut ext tb.gP) m1 m2 (kp _ _ m4 (J.bk _ _ m5)) m6 m7 m8 ?_
    have lP : l ≠ P := fun z => by
      obtain ⟨_, e, _, _, hd⟩ := _root_.id il
      rw [z, atP] at e; cases e; cases hd
    have il3 : h3.IsList l zs.toArray := let ⟨o', e, r⟩ := _root_.id il; ⟨o', kp _ _ lP e, r⟩
    have it3 : h3.IsListIter u.heap.objs.size l 0 := it0.at fun o e => ext _ o (Nat.ne_of_gt ltP) e
    refine ⟨u.heap.objs.size, [u.heap.objs.size, l], [u.heap.objs.size], zs.toArray.size, (fun i v => zs.toArray[i]? = some v), (fun i h => h.IsListIter u.heap.objs.size l i ∧ h.IsList l zs.toArray), (fun _ => true), (fun i y => i < xs.length ∧ y = .bool (tr i)), rfl,
      (fun B hB => Walks.list hB _ _ (Nat.ne_of_lt ll) _), ⟨it3, il3⟩, fun b hb => ?_, nl2.extBut ext cP, fun z => ?_, fun hr hhr => ?_, fun g h5 tk5 gs bare lt5 sz5 k5 W5 at5 => ?_⟩
    · have top : u.heap.objs.size < h3.objs.size := by omega
      rcases List.mem_cons.mp hb with z | z
      · rw [z]; exact top
      · rw [List.mem_singleton.mp z]; exact Nat.lt_trans ll top
    · rw [List.mem_singleton.mp z] at cl
      exact Nat.lt_irrefl _ cl
    · refine ⟨fun B F' i z v mz hB _ _ hp hn hm hk => ?_, fun B F' i z v mz hB hdp hun hp _ hn hm hk => ?_⟩
      · simp only [List.forIn_nil]
        exact wpAny_pure ⟨rfl, GxR.keeps_refl _⟩
      · have hp2 : zs[i]? = some z := by simpa using hp
        have li := (List.getElem?_eq_some_iff.mp hp2).1
        refine wpAny_mono (el pn u zs J vals _ B F' i z v mz rfl rfl rfl hB hdp hun hp2 hn hm fun b o hb e => ?_) (fun r t q => ⟨⟨show i < xs.length from nz ▸ li, q.1⟩, q.2⟩) fun _ _ e => e
        have lb := Heap.lt_size e
        exact hk b (List.mem_range.mpr (Nat.lt_of_lt_of_le lb (show u.heap.objs.size ≤ h3.objs.size by omega))) (fun z => by rw [List.mem_singleton.mp z] at lb; exact Nat.lt_irrefl _ lb) o (hhr b o (kp b o hb e))
    · simp only [GxR.passing_true, List.length_range] at W5
      have n5 : zs.toArray.size = xs.length := by rw [List.size_toArray, nz]
      rw [n5] at W5 at5
      refine fin xs tr G g _ hR ⟨_, _, _, _, _, W5.in4_1, at5, fun j y sj Qj Ej hy hq => ?_, fun v' mv => ?_⟩
      · obtain ⟨i, hij, _, rfl⟩ := hy
        obtain ⟨hj, ej⟩ := List.getElem?_eq_some_iff.mp hij
        rw [List.getElem_range] at ej
        subst ej
        exact wpAny_truthy_bool hq
      · obtain ⟨more, em⟩ := more3
        have out : ∀ b o, u.heap.get? b = some o → b ∉ h3.objs.size :: [u.heap.objs.size] := fun b o e hb => by
          have lb := Heap.lt_size e
          rcases List.mem_cons.mp hb with z | z
          · have z' : b = h3.objs.size := z
            have lb2 : (h3.objs.size : Nat) < u.heap.objs.size := by rw [← z']; exact lb
            omega
          · rw [List.mem_singleton.mp z] at lb; exact Nat.lt_irrefl _ lb
        have K2 := GxR.inv_tab (more := more) (h' := v'.heap) (g' := v'.gens) (d' := v'.drawn) (t' := v'.toks) J hP (fun b o hb e => mv.heap b o (out b o e) (k5 b o (kp b o hb e))) (by rw [← em]; exact mv.heap P _ (out P _ atP) (k5 P _ at3)) (AllBare.movedS (J.bare.push bare) mv)
        rw [GxR.sh_eta u v' mv.os] at K2
        exact ⟨upd G P (.tbl (tab ++ more)), ⟨⟨tab ++ more, upd_same, by rw [← em]; exact trip3⟩, fun b hb => upd_ne hb⟩, K2⟩
  refine ⟨nl2, ?_⟩
  cases among : codeAmong gpos tab.toList with
  | some cv => exact wpAny_genexprCode_hit code (hd2.code atP2 trip) among (go cv (u.heap.push ob) u.toks tab (Heap.ExtBut.refl _ _) (Nat.le_refl _) atP2 ⟨#[], by simp⟩ trip)
  | none =>
    refine wpAny_genexprCodeX code (hd2.code atP2 trip) (hd2.tab atP2) among fun c' h' tk ext ge lt isC _ tab' _ => ?_
    obtain ⟨o1, vs, f1, tf, fl, tg, inF, tx, tt, op, _, _, _, _, _, _, _, _, _, tro, _⟩ := isC
    exact go _ h' tk _ ext (Nat.le_trans ge (Nat.le_of_lt lt)) tab'.2 ⟨_, rfl⟩ tro
end
/-- the test of the item z, where the captured name y holds n -/
def EltI (prog : Program) (w : World) (scope : Scope) (x y : Str) (elt : Expr) (pb : Int → Int → Bool) : Prop :=
  ∀ (cenv : Env) (A' : Around) (E' : Value → Shared → Prop) (z n : Int) (t t' : Tok) (s₂ : Shared) (m₂ : Str → Option Value) (c : Addr), cenv.scope = scope → s₂.heap.Ns cenv.locals m₂ → m₂ x = some (.int z t) → cenv.cells.lookup y = some c → s₂.heap.IsCell c (some (.int n t')) →
    wpAny (model prog w) A' (eval elt cenv) (fun r s₃ => r = .bool (pb z n) ∧ Keeps s₂ s₃) E' s₂
/-- not 0 <= x < y -/
theorem elt_out {prog : Program} {w : World} {scope : Scope} {x y : Str} {j : Nat} {p1 p2 p3 p4 p5 : Pos} (hk : scope.kind = .function) (hx : scope.names.lookup x = some .local) (hy : scope.names.lookup y = some .free)
    (hd : (x == ("__debug__" : Str)) = false := by decide) (hd2 : (y == ("__debug__" : Str)) = false := by decide) (hc : (y == ("__classdict__" : Str)) = false := by decide) :
    EltI prog w scope x y (.UnaryOp .Not (.Compare (.Constant (.int 0) j p1) [.LtE, .Lt] [.Name x p2, .Name y p3] p4) p5) (fun z n => !(decide (0 ≤ z) && decide (z < n))) := by
  intro cenv A' E' z n t t' s₂ m₂ c hs hn hm hcl hcell
  refine UnaryOp_ ?_
  have fin : ∀ (b : Bool) (k : Nat), b = (decide (0 ≤ z) && decide (z < n)) → wpAny (model prog w) A' (unaryOp .Not (.bool b)) (fun r s₃ => r = .bool (!(decide (0 ≤ z) && decide (z < n))) ∧ Keeps s₂ s₃) E' { s₂ with toks := k } := fun b k e => by
    subst e
    exact not_of (wpAny_truthy_bool ⟨rfl, GxR.keeps_tok _ _⟩)
  refine Compare_chain ?_ (by with_unfolding_all rfl)
  refine wpAny_Constant_int (chain_link ?_)
  refine wpAny_Name (wpAny_loadName_local (by rw [hs]; exact hk) (show cenv.scope.names.lookup x = some .local by rw [hs]; exact hx) hn hm ?_) hd
  refine le_int ?_
  refine wpAny_truthy_bool ?_
  by_cases h0 : 0 ≤ z
  · rw [if_pos (decide_eq_true h0)]
    refine chain_last ?_
    refine wpAny_Name (wpAny_loadName_free (by rw [hs]; exact hk) (show cenv.scope.names.lookup y = some .free by rw [hs]; exact hy) hcl hcell ?_ hc) hd2
    refine lt_int ?_
    exact fin _ _ (by rw [decide_eq_true h0]; rfl)
  · rw [if_neg (fun q => h0 (of_decide_eq_true q))]
    exact fin _ _ (by rw [decide_eq_false h0]; rfl)
section
variable {X : Cx}
theorem pe_anyL {cd P : Addr} {elt iter : Expr} {x : Str} {px p pos gpos : Pos} {scope : Scope} {te : TE} {k : Nat} (room : Room k X.A) (gl : Gl X "any") (mg : X.mg "any" = none) (tb : GxR.TabB X.base X.mg cd P) (code : X.env.code = .ref cd) (sc : GxR.GenS X.env scope x) (pi : PE X iter te)
    (fold : ∀ v, genFold iter X.env v = pure v) (star : starEach [.GeneratorExp elt [⟨.Name x px, iter, [], 0⟩] scope gpos] X.env = (false, eval (.GeneratorExp elt [⟨.Name x px, iter, [], 0⟩] scope gpos) X.env) :: starEach [] X.env := by rfl) :
    PE X (.Call (.Name "any" p) [.GeneratorExp elt [⟨.Name x px, iter, [], 0⟩] scope gpos] [] pos) (tAnyL X P scope x elt te) := by
  refine ⟨fun pn s σ H Q I h => wpAny_Call_Name_kw (ld_blt I gl mg boot_any (PyProof.Rows.callWith_builtin1 ?_ star (by rfl)))⟩
  rw [star]
  show wpAny _ _ (spliced ((false, _) :: backTo pos (starEach [] X.env))) _ _ s
  refine Calls.spliced_cons (gen_list (R := fun xs tr G => ∀ G2, GxR.Tabbed P G G2 → Q (.bl ((List.range xs.length).any tr)) G2) room tb code sc pi fold I h fun xs tr G g v hR ready => Calls.spliced_nil ?_)
  obtain ⟨fp, wr, M, F, St, W, st0, truth, back⟩ := ready
  refine call_any_walkS (W.self 0 _ _ _ st0 ⟨g, fp, wr, M, _, F, St, _, rfl, W, st0, truth, fun v' mv => ?_⟩)
  obtain ⟨G2, tabbed, J⟩ := back v' mv
  exact ⟨.bl _, G2, J, rfl, hR G2 tabbed⟩
theorem pe_allL {cd P : Addr} {elt iter : Expr} {x : Str} {px p pos gpos : Pos} {scope : Scope} {te : TE} {k : Nat} (room : Room k X.A) (gl : Gl X "all") (mg : X.mg "all" = none) (boot : bootBuiltins "all" = some (.builtin "all")) (tb : GxR.TabB X.base X.mg cd P) (code : X.env.code = .ref cd) (sc : GxR.GenS X.env scope x) (pi : PE X iter te)
    (fold : ∀ v, genFold iter X.env v = pure v) (star : starEach [.GeneratorExp elt [⟨.Name x px, iter, [], 0⟩] scope gpos] X.env = (false, eval (.GeneratorExp elt [⟨.Name x px, iter, [], 0⟩] scope gpos) X.env) :: starEach [] X.env := by rfl) :
    PE X (.Call (.Name "all" p) [.GeneratorExp elt [⟨.Name x px, iter, [], 0⟩] scope gpos] [] pos) (tAllL X P scope x elt te) := by
  refine ⟨fun pn s σ H Q I h => wpAny_Call_Name_kw (ld_blt I gl mg boot (PyProof.Rows.callWith_builtin1 ?_ star (by rfl)))⟩
  rw [star]
  show wpAny _ _ (spliced ((false, _) :: backTo pos (starEach [] X.env))) _ _ s
  refine Calls.spliced_cons (gen_list (R := fun xs tr G => ∀ G2, GxR.Tabbed P G G2 → Q (.bl ((List.range xs.length).all tr)) G2) room tb code sc pi fold I h fun xs tr G g v hR ready => Calls.spliced_nil ?_)
  obtain ⟨fp, wr, M, F, St, W, st0, truth, back⟩ := ready
  refine call_all_walkS (W.self 0 _ _ _ st0 ⟨g, fp, wr, M, _, F, St, _, rfl, W, st0, truth, fun v' mv => ?_⟩)
  obtain ⟨G2, tabbed, J⟩ := back v' mv
  exact ⟨.bl _, G2, J, rfl, hR G2 tabbed⟩
end
/-- the answer of the j-th -/
def trI (pb : Int → Int → Bool) (ns : List Int) (n : Int) (j : Nat) : Bool := match ns[j]? with
  | some z => pb z n
  | none => false
theorem trI_at {pb : Int → Int → Bool} {ns : List Int} {n z : Int} {j : Nat} (h : ns[j]? = some z) : trI pb ns n j = pb z n := by
  unfold trI
  rw [h]
theorem any_trI {pb : Int → Int → Bool} {ns : List Int} {n : Int} : (List.range (ns.map V.int).length).any (trI pb ns n) = ns.any fun z => pb z n := by
  rw [List.length_map, Bool.eq_iff_iff, List.any_eq_true, List.any_eq_true]
  refine ⟨fun ⟨j, hj, e⟩ => ?_, fun ⟨z, hz, e⟩ => ?_⟩
  · have lt := List.mem_range.mp hj
    exact ⟨ns[j], List.getElem_mem lt, by rw [← trI_at (pb := pb) (n := n) (List.getElem?_eq_getElem lt)]; exact e⟩
  · obtain ⟨j, hj⟩ := List.getElem?_of_mem hz
    exact ⟨j, List.mem_range.mpr (List.getElem?_eq_some_iff.mp hj).1, by rw [trI_at hj]; exact e⟩
/-- numbers, tested against the number that the name y of the def holds -/
theorem el_int {X : Cx} {σ : L2.St} {G : Hp} {P : Addr} {scope : Scope} {x y : Str} {elt : Expr} {pb : Int → Int → Bool} {ns : List Int} {n : Int} {i : Nat} (h : EltI X.prog X.w scope x y elt pb) (sc : GxR.GenS X.env scope x) (hy : (y, NameKind.free) ∈ scope.names) (hN : X.N[i]? = some y) (hv : X.env.scope.names.lookup y = some .cell)
    (hs : σ[i]? = some (some (.int n))) (hP : ∃ ps, G P = some (.tbl ps)) : ElL X σ G P scope x elt (ns.map V.int) (trI pb ns n) := by
  intro pn u zs J vals ce B F' j z v mz e1 e2 e3 hB _ _ hz hn hm kept
  obtain ⟨m, hm0, look⟩ := J.loc
  obtain ⟨w0, rw0, hl⟩ := look i y (.int n) hN hs (.inr (.inl hv))
  obtain ⟨t', rfl⟩ := rw0
  obtain ⟨a, ea⟩ : ∃ a, ns[j]? = some a := by
    have lj := (List.getElem?_eq_some_iff.mp hz).1
    have := vals.length
    rw [List.length_map] at this
    exact ⟨ns[j]'(by omega), List.getElem?_eq_getElem _⟩
  obtain ⟨z', ez, rz⟩ := vals.get (i := j) (x := .int a) (by rw [List.getElem?_map, ea]; rfl)
  rw [hz] at ez
  cases Option.some.inj ez
  obtain ⟨t, rfl⟩ := rz
  rcases hl with ⟨h1, _⟩ | ⟨_, c, hc, cell⟩
  · have : X.env.scope.names.lookup y = some .local := h1
    rw [hv] at this
    cases this
  · obtain ⟨ps, hP⟩ := hP
    have atP : u.heap.get? P = some { cls := .none, data := .fields ps } := J.hok P _ hP
    have cell2 : v.heap.IsCell c (some (.int n t')) := by
      obtain ⟨o, ho, hd⟩ := cell
      refine ⟨o, kept c o (fun q => ?_) ho, hd⟩
      rw [q, atP] at ho
      cases ho
      cases hd
    refine wpAny_mono (h ce B F' a n t t' v mz c e1 hn hm (by rw [e2]; exact NdefX.clo_has sc.free hy hc) cell2) (fun r t q => ⟨?_, q.2⟩) fun _ _ e => e
    rw [trI_at ea]
    exact q.1
end BB

set_option maxHeartbeats 4000000
/-! Gtb: defs whose code object is known; heaps that are the same but for a code object's table; the end of a law whose defs have such tables. -/
namespace BB
open PySem PySem.Spec PyProof.Rows L2
/-- a def whose code object stands at c -/
structure FunT (K : PySem.W.Frag) (name qual : Str) (d : Stmt) (f : Addr) (fd : FuncData) (c : Addr) : Prop where
  made : ∃ (v0 v1 v2 v3 v4 : Value) (d0 a0 : Option Addr) (sl : Array (Option Value)), K.lookup f = some ⟨v0, d0, .func fd, sl⟩ ∧ fd = PySem.W.fnOf name qual (defArgs d) (defBody d) (defScope d) .none v1 v2 v3 a0 (.ref c) v4
  cdIn : PySem.W.codeIn K (.ref c) qual = true
  kp : PySem.W.keepIn K (.ref f) = true
theorem FunT.fn {K : PySem.W.Frag} {name qual : Str} {d : Stmt} {f c : Addr} {fd : FuncData} (F : FunT K name qual d f fd c) : Fun K name qual d f fd := by
  obtain ⟨v0, v1, v2, v3, v4, d0, a0, sl, h1, h2⟩ := F.made
  exact ⟨⟨v0, d0, v1, v2, v3, a0, .ref c, v4, sl, h2, h1, F.cdIn⟩, F.kp⟩
theorem FunT.mk' {K : PySem.W.Frag} {name qual : Str} {d : Stmt} {f c : Addr} {v0 v1 v2 v3 v4 : Value} {d0 a0 : Option Addr} {sl : Array (Option Value)} (h1 : K.lookup f = some ⟨v0, d0, .func (PySem.W.fnOf name qual (defArgs d) (defBody d) (defScope d) .none v1 v2 v3 a0 (.ref c) v4), sl⟩)
    (h2 : PySem.W.codeIn K (.ref c) qual = true) (h3 : PySem.W.keepIn K (.ref f) = true) : FunT K name qual d f (PySem.W.fnOf name qual (defArgs d) (defBody d) (defScope d) .none v1 v2 v3 a0 (.ref c) v4) c := ⟨⟨v0, v1, v2, v3, v4, d0, a0, sl, h1, rfl⟩, h2, h3⟩
section
variable {prog : Program} {w : World} {K : PySem.W.Frag} {mg : Str → Option Value} {base : Heap}
theorem FunT.ok {name qual : Str} {d : Stmt} {f c : Addr} {fd : FuncData} {N ps : List Str} {k : Nat} {sp : Sp} (F : FunT K name qual d f fd c) (S : FnScope N ps (defScope d)) (len : ∀ vs H Q E, sp vs H Q E → vs.length = ps.length)
    (run : ∀ (A : Around) (out : List Env) (s : Shared) (H : Hp) (vs : List V) (Q : VK) (E : XK), Room k (A.deeper (envOfC qual (defScope d) s.heap.objs.size f (.ref c))) → sp vs H Q E → ∃ t, PSs (cxOf CX0 prog w K mg base N qual (defScope d) f (.ref c) A out s H E).nox (defBody d) t ∧ t { nx := fun _ H2 => Q .non H2, rt := Q } (start N vs) H) :
    FnOk prog w K mg base CX0 (k + 1) f fd ps sp := by
  obtain ⟨v0, v1, v2, v3, v4, d0, a0, sl, h1, rfl⟩ := F.made
  exact fn_of h1 F.cdIn S len fun A out s H vs Q E room h => let ⟨t, ht, q⟩ := run A out s H vs Q E room h; ⟨t, ht.nox, q⟩
theorem FunT.okX {name qual : Str} {d : Stmt} {f c : Addr} {fd : FuncData} {N ps : List Str} {k : Nat} {sp : Sp} (F : FunT K name qual d f fd c) (S : FnScope N ps (defScope d)) (len : ∀ vs H Q E, sp vs H Q E → vs.length = ps.length)
    (run : ∀ (A : Around) (out : List Env) (s : Shared) (H : Hp) (vs : List V) (Q : VK) (E : XK), Room k (A.deeper (envOfC qual (defScope d) s.heap.objs.size f (.ref c))) → sp vs H Q E → ∃ t, PSs (cxOf (L2.CX prog w) prog w K mg base N qual (defScope d) f (.ref c) A out s H E) (defBody d) t ∧ t { nx := fun _ H2 => Q .non H2, rt := Q } (start N vs) H) :
    FnOk prog w K mg base (L2.CX prog w) (k + 1) f fd ps sp := by
  obtain ⟨v0, v1, v2, v3, v4, d0, a0, sl, h1, rfl⟩ := F.made
  exact fn_of h1 F.cdIn S len run
end
/-- the scope of a generator expression, beside the def's -/
theorem gens_by {name : Str} {sc scope : Scope} {x : Str} {L f : Addr} {cd : Value} (h1 : scope.kind = .function) (h2 : scope.isCoroutine = false) (h3 : (scope.names.all fun y => y.2 != .cell) = true) (h4 : scope.names.lookup (".0" : Str) = some NameKind.local) (h5 : scope.names.lookup x = some .local)
    (h6 : (scope.names.all fun y => y.2 != .free || sc.names.lookup y.1 == some .cell) = true) : GxR.GenS (envOfC name sc L f cd) scope x := by
  refine ⟨h1, h2, fun y hy e => ?_, h4, h5, fun y hy e => ?_⟩
  · have := List.all_eq_true.mp h3 y hy
    rw [e] at this
    exact absurd this (by decide)
  · have := List.all_eq_true.mp h6 y hy
    rw [e] at this
    have h : sc.names.lookup y.1 = some .cell := by
      rcases Bool.or_eq_true_iff.mp this with z | z
      · exact absurd z (by decide)
      · exact eq_of_beq z
    exact Option.isSome_iff_exists.mp (PySem.W.cellsFrom_some sc.names (L + 1) [] (.inl h))

/-! ### the same but for a table -/
def cut (P : Addr) (H : Hp) : Hp := fun b => if b = P then none else H b
theorem cut_ne {P b : Addr} {H : Hp} (h : b ≠ P) : cut P H b = H b := if_neg h
theorem cut_sub {P : Addr} {H : Hp} : Same (cut P H) H := fun b o e => by
  unfold cut at e
  split at e
  · cases e
  · exact e
theorem cut_at {P b : Addr} {H : Hp} {o : HO} (t : GxR.TabG H P) (h : H b = some o) (n : ∀ q, o ≠ .tbl q) : cut P H b = some o := by
  obtain ⟨q, e, _⟩ := t
  rw [cut_ne (fun z => n q (by rw [z, e] at h; exact (Option.some.inj h).symm))]
  exact h
structure SameP (P : Addr) (H H' : Hp) : Prop where
  cut : Same (cut P H) H'
  tab : GxR.TabG H' P
namespace SameP
variable {P : Addr} {H H1 H2 : Hp}
theorem at_ (e : SameP P H H1) (t : GxR.TabG H P) {b : Addr} {o : HO} (h : H b = some o) (n : ∀ q, o ≠ .tbl q) : H1 b = some o := e.cut _ _ (cut_at t h n)
theorem of (e : Same H H1) (t : GxR.TabG H P) : SameP P H H1 := ⟨cut_sub.trans e, let ⟨q, h, r⟩ := t; ⟨q, e _ _ h, r⟩⟩
theorem refl (t : GxR.TabG H P) : SameP P H H := of (Same.refl H) t
theorem trans (a : SameP P H H1) (b : SameP P H1 H2) : SameP P H H2 := ⟨fun d o e => by
  have n : d ≠ P := fun z => by rw [z] at e; unfold BB.cut at e; rw [if_pos rfl] at e; cases e
  exact b.cut _ _ (by rw [cut_ne n]; exact a.cut _ _ e), b.tab⟩
theorem next (a : SameP P H H1) (b : Same H1 H2) : SameP P H H2 := a.trans (of b a.tab)
theorem tabbed (t : GxR.Tabbed P H H1) : SameP P H H1 := ⟨fun d o e => by
  have n : d ≠ P := fun z => by rw [z] at e; unfold BB.cut at e; rw [if_pos rfl] at e; cases e
  rw [cut_ne n] at e
  rw [t.2 d n]
  exact e, t.1⟩
theorem free (a : SameP P H H1) (t : GxR.TabG H P) {b : Addr} (h : H1 b = none) : H b = none := by
  cases e : H b with
  | none => rfl
  | some o =>
    by_cases z : b = P
    · obtain ⟨q, hq, _⟩ := a.tab
      rw [z, hq] at h
      cases h
    · rw [a.cut b o (by rw [cut_ne z]; exact e)] at h
      cases h
theorem grow {p : Addr} {o : HO} (a : SameP P H H1) (t : GxR.TabG H P) (h : H p = none) : SameP P H (upd H1 p o) := by
  have n : p ≠ P := fun z => by
    obtain ⟨q, hq, _⟩ := t
    rw [z, hq] at h
    cases h
  refine ⟨same_mut a.cut (by rw [cut_ne n]; exact h), ?_⟩
  obtain ⟨q, hq, r⟩ := a.tab
  exact ⟨q, by rw [upd_ne (fun z => n z.symm)]; exact hq, r⟩
end SameP
variable {K : PySem.W.Frag} {P : Addr} {H : Hp}
theorem sql_cut {a : Addr} {xs : List V} (t : GxR.TabG H P) (h : SqL K H a xs) : SqL K (cut P H) a xs := by
  rcases h with (h | ⟨o, h⟩) | h
  · exact .inl (.inl (cut_at t h fun q z => nomatch z))
  · exact .inl (.inr ⟨o, cut_at t h fun q z => nomatch z⟩)
  · exact .inr h
theorem sqt_cut {a : Addr} {xs : List V} (t : GxR.TabG H P) (h : SqT K H a xs) : SqT K (cut P H) a xs := by
  rcases h with (h | ⟨o, h⟩) | h
  · exact .inl (.inl (cut_at t h fun q z => nomatch z))
  · exact .inl (.inr ⟨o, cut_at t h fun q z => nomatch z⟩)
  · exact .inr h
mutual
theorem dp_cut (t : GxR.TabG H P) : ∀ {v : V} {d : PyData}, Dp K H v d → Dp K (cut P H) v d
  | _, _, .non => .non
  | _, _, .bl b => .bl b
  | _, _, .int i => .int i
  | _, _, .str x => .str x
  | _, _, .lst h a => .lst (sql_cut t h) (dpa_cut t a)
  | _, _, .tup h a => .tup (sqt_cut t h) (dpa_cut t a)
theorem dpa_cut (t : GxR.TabG H P) : ∀ {vs : List V} {ds : List PyData}, DpAll K H vs ds → DpAll K (cut P H) vs ds
  | _, _, .nil => .nil
  | _, _, .cons a b => .cons (dp_cut t a) (dpa_cut t b)
end
theorem fld_cut {a : Addr} {n : Str} {v : V} (t : GxR.TabG H P) (h : Fld K H a n v) : Fld K (cut P H) a n v := let ⟨C, dx, fs, h1, h2⟩ := h; ⟨C, dx, fs, cut_at t h1 (fun q z => nomatch z), h2⟩
theorem data_cut {a : Addr} {g : Nat} {bs : List Buy} {ls : List Lnk} (t : GxR.TabG H P) (h : DataAt K H a g bs ls) : DataAt K (cut P H) a g bs ls :=
  let ⟨h1, v, w, h2, h3, h4, h5⟩ := h; ⟨fld_cut t h1, v, w, fld_cut t h2, dp_cut t h3, fld_cut t h4, dp_cut t h5⟩

theorem dpa_ints : ∀ xs : List Int, DpAll K H (xs.map V.int) (xs.map PyData.int)
  | [] => .nil
  | x :: r => .cons (.int x) (dpa_ints r)
theorem dp_ints {a : Addr} {xs : List Int} (h : SqL K H a (xs.map V.int)) : Dp K H (.ref a) (.list (xs.map PyData.int)) := .lst h (dpa_ints xs)
theorem plain_ints {n : Nat} {xs : List Int} (h : xs.length ≤ 1000000) : plain (n + 2) (.list (xs.map PyData.int)) := ⟨by rw [List.length_map]; exact h, fun d hd => by
  obtain ⟨i, _, rfl⟩ := List.mem_map.mp hd
  trivial⟩

/-! ### zip of lists of different lengths -/
theorem for_zipS {a b : Addr} {xs ys : List V} {g : TG} {tb : TS} {D : Ends} {σ : L2.St} {G : Hp} (short : ys.length ≤ xs.length) (J : Nat → L2.St → Hp → Prop) (j0 : J 0 σ G) (lists : ∀ i σ G, J i σ G → SqL K G a xs ∧ SqL K G b ys)
    (turn : ∀ (i : Nat) (x y : V) (T : Addr) (σ : L2.St) (G : Hp), xs[i]? = some x → ys[i]? = some y → J i σ G → G T = none → g (.ref T) σ (upd G T (.tup [x, y])) fun σ2 G2 => tb { D with nx := J (i + 1), ct := J (i + 1), bk := D.nx } σ2 G2) (fin : ∀ σ G, J ys.length σ G → D.nx σ G) :
    ∃ M : Nat → Nat → L2.St → Hp → Prop, (∃ m, M 0 m σ G) ∧ ∀ i m σ G, M i m σ G → ((Itz K a b).stop i G ∧ D.nx σ G) ∨ ((Itz K a b).go i G ∧ ∃ B : L2.St → Hp → Prop, (∀ τ G', B τ G' → ∃ m', m' < m ∧ M (i + 1) m' τ G') ∧ ∀ v G', (Itz K a b).yld i G v G' → g v σ G' fun σ2 G2 => tb { D with nx := B, ct := B, bk := D.nx } σ2 G2) := by
  refine ⟨fun i m σ G => m = ys.length - i ∧ i ≤ ys.length ∧ J i σ G, ⟨ys.length, rfl, Nat.zero_le _, j0⟩, ?_⟩
  rintro i m σ G ⟨rfl, hi, j⟩
  obtain ⟨qx, qy⟩ := lists i σ G j
  rcases Nat.lt_or_ge i ys.length with lt | ge
  · refine .inr ⟨⟨xs, ys, _, _, qx, qy, List.getElem?_eq_getElem (show i < xs.length by omega), List.getElem?_eq_getElem lt⟩, J (i + 1), fun τ G' j' => ⟨ys.length - (i + 1), by omega, rfl, lt, j'⟩, fun v G' y => ?_⟩
    obtain ⟨T, x', y', rfl, free, rfl, f1, f2⟩ := y
    exact turn i x' y' T σ G (f1 xs qx) (f2 ys qy) j free
  · have e : i = ys.length := by omega
    subst e
    exact .inl ⟨⟨xs, ys, qx, qy, .inr (Nat.le_refl _)⟩, fin σ G j⟩

theorem cutV_at {xs : List V} {k : Nat} (h : k ≤ xs.length) : cutV xs (some (k : Int)) none = xs.drop k := by
  unfold cutV
  rw [HT.sIx_nat, HT.sIx_none, Nat.min_eq_left h]
  exact List.take_of_length_le (by rw [List.length_drop]; exact Nat.le_refl _)
theorem cutV_one {xs : List V} (h : xs ≠ []) : cutV xs (some 1) none = xs.drop 1 := cutV_at (k := 1) (List.length_pos_iff.mpr h)
theorem tabS_steps {bs : List Buy} {ls : List Lnk} {i j : Nat} (hi : i < bs.length) (hj : j < bs.length) : tabS (stepsR bs ls) i j = stepR bs ls i j := by
  obtain ⟨e1, e2⟩ := steps_get (ls := ls) hi hj
  unfold tabS
  rw [e1]
  show (match ((List.range bs.length).map fun j => stepR bs ls i j)[j]? with | some o => o | none => none) = _
  rw [e2]
theorem inRange_at {n : Nat} {xs : List Int} (h : inRange n xs = true) {m : Nat} (hm : m < xs.length) : ∃ c : Nat, xs[m]? = some (c : Int) ∧ c < n := by
  unfold inRange at h
  obtain ⟨h2, h3⟩ := Bool.and_eq_true_iff.mp (List.all_eq_true.mp h _ (List.getElem_mem hm))
  have h3' := of_decide_eq_true h3
  obtain ⟨c, hc⟩ := Int.eq_ofNat_of_zero_le (of_decide_eq_true h2)
  exact ⟨c, by rw [List.getElem?_eq_getElem hm, hc], by omega⟩
theorem any_out {n : Nat} {xs : List Int} : (xs.any fun z => !(decide (0 ≤ z) && decide (z < (n : Int)))) = !inRange n xs := by
  unfold inRange
  rw [List.not_all_eq_any_not]

/-! ### the end -/
theorem tabB_of {base : Heap} {mg : Str → Option Value} {c P : Addr} (h : LamX.TabB base mg c P) : GxR.TabB base mg c P := ⟨h.1, h.2, h.3⟩
/-- what the head tells of the tables of the defs of the text: they are empty -/
def TabsTold (prog : Program) (K : PySem.W.Frag) (h : Heap) : Prop := ∀ (y : Str) (c P : Addr), ((recsOf prog).any fun e => e.name == y) = true → PySem.W.tabIn K y = some (c, P) → PySem.W.CodeHd h c P ∧ h.get? P = some { cls := .none, data := .fields #[] }
theorem walk_tabs {l : PySem.W.OpenLaw} {n k : Nat} {prog : Program} {loose : List Str} {XP : (Str → Option Value) → Heap → Prop} {YP : World → Heap → Prop} {d : DefRec} {Kp : Params → PySem.W.Frag} {CX : World → CXT} {x : Str}
    (most : l.most = some n) (line : n ≤ sizeLine) (nodef : d.params.defaults = []) (room : Room k callerA) (head : ∀ (w : World) (h : Heap), YP w h → (Kp w.params).In h)
    (F : ∀ (w : World) (mg : Str → Option Value) (fa : Addr) (h : Heap), YP w h → (Kp w.params).In h → h.Ns mainGlobals mg → mg d.name = some (.ref fa) → TabsTold prog (Kp w.params) h → LamX.LawAtS l w (Kp w.params) (CX w) k n x mg fa h)
    (noX : ∀ (w : World) (H : Hp) (s : Shared) (e : Value) (s2 : Shared), CX w [] H s (fun _ _ _ => False) e s2 → False) : PySem.W.WalkO prog loose XP YP l.row.toRowW d [] (fun f vs => PySem.call f vs) := by
  refine Att.attach_callB most nodef fun w s₀ s₁ mg mb fa o pm cd doc a vs ns G Y _ _ _ hmg script nums len bits noG => ?_
  have told : TabsTold prog (Kp w.params) s₁.heap := fun y c P hy ht => by
    obtain ⟨r, hr⟩ := Option.isSome_iff_exists.mp (List.find?_isSome.mpr (List.any_eq_true.mp hy))
    exact PySem.W.tab_of G.T (head w _ Y) hr ht
  obtain ⟨fd, cs, sp, e1, e2, e3, bind, fit, run⟩ := F w mg fa _ Y (head w _ Y) G.T.g hmg told
  exact LamX.law_callTs (head w _ Y) G.T.g G.T.b G.T.builtins G.T.nolimit noG e1 e2 e3 G.T.bmain script nums (Nat.le_trans len line) room run bind (fun H h1 h2 => fit H a ns len bits h1 h2) fun H e s2 => noX w H s₁ e s2
end BB

/-! own short words of tactics -/
local macro_rules | `(tactic| walk_at "sq") => `(tactic| first
  | assumption
  | (refine sqt_upd (by assumption) ?_; walk_at "sq")
  | (refine sql_upd (by assumption) ?_; walk_at "sq")
  | (refine IsF.new (by assumption) ?_; walk_at "sq")
  | (refine sqt_same (by assumption) ?_; walk_at "sq")
  | (refine Same.seq (by assumption) ?_; walk_at "sq")
  | (refine IsF.same (by assumption) ?_; walk_at "sq"))
local macro_rules | `(tactic| walk_at "go") => `(tactic| repeat (first
  | refine ⟨_, rfl, ?_⟩
  | refine ⟨_, _, rfl, rfl, ?_⟩
  | refine .inl ⟨_, rfl, ?_⟩))

namespace BB
open PySem PySem.Spec PyProof.Rows L2
def topS (i : Nat) : Stmt := PySem.Challenge.pw_buybook_k17_chains_judged.main.body.getD i (.Pass ⟨0, 0, 0, 0⟩)
abbrev s__law_row : Stmt := topS 18
abbrev N__law_row : List Str := ["_law_script", "_law_place", "_law_many", "_law_cell", "_law_rest", "_law_row_here", "_law_k", "_law_mixed"]
theorem sc__law_row : FnScope N__law_row ["_law_script", "_law_place", "_law_many"] (defScope s__law_row) := ⟨rfl, rfl, rfl, by decide +kernel, rfl, by decide +kernel, by decide +kernel⟩
abbrev s__law_gcd : Stmt := topS 20
abbrev N__law_gcd : List Str := ["_law_a", "_law_b", "_law_k"]
theorem sc__law_gcd : FnScope N__law_gcd ["_law_a", "_law_b"] (defScope s__law_gcd) := ⟨rfl, rfl, rfl, by decide +kernel, rfl, by decide +kernel, by decide +kernel⟩
abbrev s__law_lowest : Stmt := topS 21
abbrev N__law_lowest : List Str := ["_law_p", "_law_q", "_law_common"]
theorem sc__law_lowest : FnScope N__law_lowest ["_law_p", "_law_q"] (defScope s__law_lowest) := ⟨rfl, rfl, rfl, by decide +kernel, rfl, by decide +kernel, by decide +kernel⟩
abbrev s__law_long : Stmt := topS 19
abbrev N__law_long : List Str := ["_law_row_here", "_law_start", "_law_many", "_law_number", "_law_k"]
theorem sc__law_long : FnScope N__law_long ["_law_row_here", "_law_start", "_law_many"] (defScope s__law_long) := ⟨rfl, rfl, rfl, by decide +kernel, rfl, by decide +kernel, by decide +kernel⟩
abbrev s__law_purchase : Stmt := topS 22
abbrev N__law_purchase : List Str := ["_law_row_here", "_law_shape", "_law_goods", "_law_kind", "_law_prices", "_law_amounts", "_law_k", "_law_price", "_law_amount", "_law_x"]
theorem sc__law_purchase : FnScope N__law_purchase ["_law_row_here", "_law_shape", "_law_goods", "_law_kind"] (defScope s__law_purchase) := ⟨rfl, rfl, rfl, by decide +kernel, rfl, by decide +kernel, by decide +kernel⟩
abbrev s__law_data : Stmt := topS 23
abbrev N__law_data : List Str := ["_law_script", "_law_place", "_law_most", "_law_linked", "_law_shape", "_law_goods", "_law_count", "_law_buys", "_law_i", "_law_kind", "_law_links", "_law_row_here", "_law_k"]
theorem sc__law_data : FnScope N__law_data ["_law_script", "_law_place", "_law_most", "_law_linked"] (defScope s__law_data) := ⟨rfl, rfl, rfl, by decide +kernel, rfl, by decide +kernel, by decide +kernel⟩
abbrev s_Data_init : Stmt := inClass (topS 10) 0
abbrev N_Data_init : List Str := ["self", "goods", "buys", "links", "prices", "amounts"]
theorem sc_Data_init : FnScope N_Data_init ["self", "goods", "buys", "links"] (defScope s_Data_init) := ⟨rfl, rfl, rfl, by decide +kernel, rfl, by decide +kernel, by decide +kernel⟩
abbrev s__law_made : Stmt := topS 24
abbrev N__law_made : List Str := ["_law_goods", "_law_buys", "_law_links", "_law_one"]
theorem sc__law_made : FnScope N__law_made ["_law_goods", "_law_buys", "_law_links"] (defScope s__law_made) := ⟨rfl, rfl, rfl, by decide +kernel, rfl, by decide +kernel, by decide +kernel⟩
abbrev s__law_dot : Stmt := topS 25
abbrev N__law_dot : List Str := ["_law_a", "_law_b", "_law_total", "_law_k", "_law_q"]
theorem sc__law_dot : FnScope N__law_dot ["_law_a", "_law_b"] (defScope s__law_dot) := ⟨rfl, rfl, rfl, by decide +kernel, rfl, by decide +kernel, by decide +kernel⟩
abbrev s__law_gap : Stmt := topS 26
abbrev N__law_gap : List Str := ["_law_buys", "_law_i", "_law_basket", "_law_price", "_law_money"]
theorem sc__law_gap : FnScope N__law_gap ["_law_buys", "_law_i", "_law_basket"] (defScope s__law_gap) := ⟨rfl, rfl, rfl, by decide +kernel, rfl, by decide +kernel, by decide +kernel⟩
abbrev s__law_step : Stmt := topS 27
abbrev N__law_step : List Str := ["_law_buys", "_law_links", "_law_i", "_law_j", "_law_found", "_law_over", "_law_first", "_law_second", "_law_strict"]
theorem sc__law_step : FnScope N__law_step ["_law_buys", "_law_links", "_law_i", "_law_j"] (defScope s__law_step) := ⟨rfl, rfl, rfl, by decide +kernel, rfl, by decide +kernel, by decide +kernel⟩
abbrev s__law_steps : Stmt := topS 28
abbrev N__law_steps : List Str := ["_law_buys", "_law_links", "_law_i", "_law_j"]
theorem sc__law_steps : FnScope N__law_steps ["_law_buys", "_law_links"] (defScope s__law_steps) := ⟨rfl, rfl, rfl, by decide +kernel, rfl, by decide +kernel, by decide +kernel⟩
abbrev s__law_is_integer : Stmt := topS 17
abbrev N__law_is_integer : List Str := ["_law_x"]
theorem sc__law_is_integer : FnScope N__law_is_integer ["_law_x"] (defScope s__law_is_integer) := ⟨rfl, rfl, rfl, by decide +kernel, rfl, by decide +kernel, by decide +kernel⟩
abbrev s__law_same : Stmt := topS 29
abbrev N__law_same : List Str := ["_law_actual", "_law_due", "_law_k"]
theorem sc__law_same : FnScope N__law_same ["_law_actual", "_law_due"] (defScope s__law_same) := ⟨rfl, rfl, rfl, by decide +kernel, rfl, by decide +kernel, by decide +kernel⟩
abbrev s__law_unchanged : Stmt := topS 30
abbrev N__law_unchanged : List Str := ["_law_data_here", "_law_goods", "_law_buys", "_law_links"]
theorem sc__law_unchanged : FnScope N__law_unchanged ["_law_data_here", "_law_goods", "_law_buys", "_law_links"] (defScope s__law_unchanged) := ⟨rfl, rfl, rfl, by decide +kernel, rfl, by decide +kernel, by decide +kernel⟩
abbrev s__law_walk : Stmt := topS 33
abbrev N__law_walk : List Str := ["_law_row_here", "_law_steps_here", "_law_many", "_law_count", "_law_chain_here", "_law_k", "_law_near", "_law_j"]
theorem sc__law_walk : FnScope N__law_walk ["_law_row_here", "_law_steps_here", "_law_many"] (defScope s__law_walk) := ⟨rfl, rfl, rfl, by decide +kernel, rfl, by decide +kernel, by decide +kernel⟩
abbrev s__law_list : Stmt := topS 34
abbrev N__law_list : List Str := ["_law_row_here", "_law_steps_here", "_law_count", "_law_many", "_law_chain_here", "_law_k"]
theorem sc__law_list : FnScope N__law_list ["_law_row_here", "_law_steps_here"] (defScope s__law_list) := ⟨rfl, rfl, rfl, by decide +kernel, rfl, by decide +kernel, by decide +kernel⟩
abbrev s__law_chain : Stmt := topS 32
abbrev N__law_chain : List Str := ["_law_steps_here", "_law_chain_here", "_law_i", "_law_strict", "_law_k", "_law_one"]
theorem sc__law_chain : FnScope N__law_chain ["_law_steps_here", "_law_chain_here"] (defScope s__law_chain) := ⟨rfl, rfl, rfl, by decide +kernel, rfl, by decide +kernel, by decide +kernel⟩
abbrev s__law_same_answer : Stmt := topS 31
abbrev N__law_same_answer : List Str := ["_law_actual", "_law_due"]
theorem sc__law_same_answer : FnScope N__law_same_answer ["_law_actual", "_law_due"] (defScope s__law_same_answer) := ⟨rfl, rfl, rfl, by decide +kernel, rfl, by decide +kernel, by decide +kernel⟩
abbrev s_ratio : Stmt := topS 2
abbrev N_ratio : List Str := ["p", "q", "common"]
theorem sc_ratio : FnScope N_ratio ["p", "q"] (defScope s_ratio) := ⟨rfl, rfl, rfl, by decide +kernel, rfl, by decide +kernel, by decide +kernel⟩
abbrev s_add : Stmt := topS 3
abbrev N_add : List Str := ["a", "b"]
theorem sc_add : FnScope N_add ["a", "b"] (defScope s_add) := ⟨rfl, rfl, rfl, by decide +kernel, rfl, by decide +kernel, by decide +kernel⟩
abbrev s_mul : Stmt := topS 4
abbrev N_mul : List Str := ["a", "b"]
theorem sc_mul : FnScope N_mul ["a", "b"] (defScope s_mul) := ⟨rfl, rfl, rfl, by decide +kernel, rfl, by decide +kernel, by decide +kernel⟩
abbrev s_dot : Stmt := topS 8
abbrev N_dot : List Str := ["a", "b", "total", "x", "y"]
theorem sc_dot : FnScope N_dot ["a", "b"] (defScope s_dot) := ⟨rfl, rfl, rfl, by decide +kernel, rfl, by decide +kernel, by decide +kernel⟩
abbrev s_cost : Stmt := topS 11
abbrev N_cost : List Str := ["prices", "amounts"]
theorem sc_cost : FnScope N_cost ["prices", "amounts"] (defScope s_cost) := ⟨rfl, rfl, rfl, by decide +kernel, rfl, by decide +kernel, by decide +kernel⟩
abbrev s_spent : Stmt := topS 12
abbrev N_spent : List Str := ["data", "i", "prices", "amounts"]
theorem sc_spent : FnScope N_spent ["data", "i"] (defScope s_spent) := ⟨rfl, rfl, rfl, by decide +kernel, rfl, by decide +kernel, by decide +kernel⟩
abbrev s_at_most : Stmt := topS 6
abbrev N_at_most : List Str := ["a", "b"]
theorem sc_at_most : FnScope N_at_most ["a", "b"] (defScope s_at_most) := ⟨rfl, rfl, rfl, by decide +kernel, rfl, by decide +kernel, by decide +kernel⟩
abbrev s_less : Stmt := topS 5
abbrev N_less : List Str := ["a", "b"]
theorem sc_less : FnScope N_less ["a", "b"] (defScope s_less) := ⟨rfl, rfl, rfl, by decide +kernel, rfl, by decide +kernel, by decide +kernel⟩
abbrev s_step : Stmt := topS 14
abbrev N_step : List Str := ["data", "i", "j", "strict", "price", "money", "first", "second", "better"]
theorem sc_step : FnScope N_step ["data", "i", "j"] (defScope s_step) := ⟨rfl, rfl, rfl, by decide +kernel, rfl, by decide +kernel, by decide +kernel⟩
abbrev s_judge_chain : Stmt := topS 15
abbrev N_judge_chain : List Str := ["data", "chain", "count", "strict", "i", "j", "found"]
theorem sc_judge_chain : FnScope N_judge_chain ["data", "chain"] (defScope s_judge_chain) := ⟨rfl, rfl, rfl, by decide +kernel, rfl, by decide +kernel, by decide +kernel⟩
abbrev s_law : Stmt := topS 35
abbrev N_law : List Str := ["_law_script", "_law_goods", "_law_buys", "_law_links", "_law_data_here", "_law_steps_here", "_law_place", "_law_chain_here", "_law_passed", "_law_due"]
theorem sc_law : FnScope N_law ["_law_script"] (defScope s_law) := ⟨rfl, rfl, rfl, by decide +kernel, rfl, by decide +kernel, by decide +kernel⟩
section
variable {P : Program} {w : World} {K : PySem.W.Frag} {mg : Str → Option Value} {base : Heap}
def sp__law_row (K : PySem.W.Frag) : Sp := fun vs H Q _ => ∃ (a : Addr) (ns : List Int) (pl m : Nat), vs = [.ref a, .int (pl : Int), .int (m : Int)] ∧ SqL K H a (ns.map V.int) ∧ m ≤ 1000 ∧
  ∀ H' p row, Same H H' → H p = none → isRow row m → H' p = some (.lst (row.map V.int)) → Q (.ref p) H'
def sp__law_gcd (K : PySem.W.Frag) : Sp := fun vs H Q _ => ∃ a b : Int, vs = [.int a, .int b] ∧ 0 ≤ a ∧ 0 ≤ b ∧ b.natAbs < 2 ^ 9000 ∧ Q (.int ((Nat.gcd a.natAbs b.natAbs : Nat) : Int)) H
def sp__law_lowest (K : PySem.W.Frag) : Sp := fun vs H Q _ => ∃ (p q : Int), vs = [.int p, .int q] ∧ 0 < q ∧ q.natAbs < 2 ^ 9000 ∧ rF K H (Rat.divInt p q) Q
def sp__law_long (K : PySem.W.Frag) : Sp := fun vs H Q _ => ∃ (a : Addr) (row : List Int) (st m : Int) (n b : Nat), vs = [.ref a, .int st, .int m] ∧ SqL K H a (row.map V.int) ∧ isRow row n ∧ 0 ≤ st ∧ 0 ≤ m ∧ m ≤ b ∧ st + m ≤ n ∧ n ≤ 1000 ∧
  ∀ x : Int, 0 ≤ x → x.natAbs < 2 ^ (10 * b) → x.natAbs < 1000 ^ b → Q (.int x) H
def sp__law_purchase (K : PySem.W.Frag) : Sp := fun vs H Q _ => ∃ (a a2 : Addr) (row shape : List Int) (g : Nat) (kd : Int), vs = [.ref a, .ref a2, .int (g : Int), .int kd] ∧ SqL K H a (row.map V.int) ∧ isRow row 33 ∧ SqL K H a2 (shape.map V.int) ∧ isRow shape 9 ∧ 1 ≤ g ∧ g ≤ 4 ∧ ∀ b, okBuy g b → rD K H (bD b) Q
def sp__law_data (K : PySem.W.Frag) : Sp := fun vs H Q _ => ∃ (a : Addr) (ns : List Int) (pl most linked : Nat), vs = [.ref a, .int (pl : Int), .int (most : Int), .int (linked : Int)] ∧ SqL K H a (ns.map V.int) ∧ most ≤ 10 ∧ linked ≤ 5 ∧ ∀ g bs ls, okData g most linked bs ls → rD K H (dataD g bs ls) Q
def sp_Data_init (K : PySem.W.Frag) (C : Addr) : Sp := fun vs H Q _ => ∃ (H₀ : Hp) (p dx : Addr) (g : Nat) (bs : List Buy) (ls : List Lnk) (vb vl : V), vs = [.ref p, .int (g : Int), vb, vl] ∧ Same H₀ H ∧ H₀ p = none ∧ H p = some (.ins C dx []) ∧ Dp K H₀ vb (bsD bs) ∧ Dp K H₀ vl (lsD ls) ∧ bs.length ≤ 1000 ∧ ls.length ≤ 1000 ∧ (∀ b ∈ bs, b.1.length ≤ 1000 ∧ b.2.length ≤ 1000) ∧
  ∀ H' fs, Same H₀ H' → H' p = some (.ins C dx fs) → DataN K H₀ H' p g bs ls → Q .non H'
def sp__law_made (K : PySem.W.Frag) : Sp := fun vs H Q _ => ∃ (g : Nat) (bs : List Buy) (ls : List Lnk) (vb vl : V), vs = [.int (g : Int), vb, vl] ∧ Dp K H vb (bsD bs) ∧ Dp K H vl (lsD ls) ∧ bs.length ≤ 1000 ∧ ls.length ≤ 1000 ∧ (∀ b ∈ bs, b.1.length ≤ 1000 ∧ b.2.length ≤ 1000) ∧
  ∀ H' p, Same H H' → H p = none → DataN K H H' p g bs ls → Q (.ref p) H'
def sp__law_dot (K : PySem.W.Frag) : Sp := fun vs H Q _ => ∃ (a b : Addr) (rs ss : List Rat) (B : Nat), vs = [.ref a, .ref b] ∧ FsAt K H a rs ∧ FsAt K H b ss ∧ rs.length = ss.length ∧ (∀ r ∈ rs, Sz B r) ∧ (∀ s ∈ ss, Sz B s) ∧ rs.length * (2 * B + 1) ≤ 4000 ∧ rs.length ≤ 1000 ∧ rP K H (dotR rs ss) (rs.length * (2 * B + 1) + 1) Q
def sp__law_gap (K : PySem.W.Frag) : Sp := fun vs H Q _ => ∃ (vb : V) (bs : List Buy) (i g : Nat) (b : Buy) (c : Addr) (ss : List Rat), vs = [vb, .int (i : Int), .ref c] ∧ Dp K H vb (bsD bs) ∧ bs[i]? = some b ∧ okBuy g b ∧ g ≤ 4 ∧ FsAt K H c ss ∧ ss.length = g ∧ (∀ s ∈ ss, Sz 80 s) ∧ rP K H (gapR b ss) 3000 Q
def sp__law_step (K : PySem.W.Frag) : Sp := fun vs H Q _ => ∃ (vb vl : V) (bs : List Buy) (ls : List Lnk) (i j g : Nat), vs = [vb, vl, .int (i : Int), .int (j : Int)] ∧ Dp K H vb (bsD bs) ∧ Dp K H vl (lsD ls) ∧ i < bs.length ∧ j < bs.length ∧ g ≤ 4 ∧ (∀ b ∈ bs, okBuy g b) ∧ ∀ H', Same H H' → Q (opV (stepR bs ls i j)) H'
def sp__law_steps (K : PySem.W.Frag) : Sp := fun vs H Q _ => ∃ (vb vl : V) (bs : List Buy) (ls : List Lnk) (g : Nat), vs = [vb, vl] ∧ Dp K H vb (bsD bs) ∧ Dp K H vl (lsD ls) ∧ g ≤ 4 ∧ (∀ b ∈ bs, okBuy g b) ∧ bs.length ≤ 100 ∧ rD K H (tabD (stepsR bs ls)) Q
def sp__law_is_integer (K : PySem.W.Frag) : Sp := fun vs H Q _ => ∃ i : Int, vs = [.int i] ∧ Q (.bl true) H
def sp__law_same (n : Nat) (K : PySem.W.Frag) : Sp := fun vs H Q _ => ∃ (x y : V) (d : PyData), vs = [x, y] ∧ Dp K H x d ∧ Dp K H y d ∧ plain n d ∧ Q (.bl true) H
def sp__law_unchanged (K : PySem.W.Frag) : Sp := fun vs H Q _ => ∃ (a : Addr) (vb vl : V) (g : Nat) (bs : List Buy) (ls : List Lnk), vs = [.ref a, .int (g : Int), vb, vl] ∧ DataAt K H a g bs ls ∧ Dp K H vb (bsD bs) ∧ Dp K H vl (lsD ls) ∧ g ≤ 1000000 ∧ bs.length ≤ 1000000 ∧ ls.length ≤ 1000000 ∧ (∀ b ∈ bs, okBuy g b) ∧ Q (.bl true) H
def sp__law_walk (K : PySem.W.Frag) : Sp := fun vs H Q _ => ∃ (a : Addr) (v : V) (row : List Int) (ST : List (List (Option Bool))) (m : Nat), vs = [.ref a, v, .int (m : Int)] ∧ SqL K H a (row.map V.int) ∧ m ≤ row.length ∧ m ≤ 100 ∧ Dp K H v (tabD ST) ∧ ST.length ≤ 100 ∧ (∀ r ∈ ST, r.length = ST.length) ∧
  ∀ (H' : Hp) (p : Addr) (xs : List Int), Same H H' → H p = none → H' p = some (.lst (xs.map V.int)) → xs.length ≤ m → Q (.ref p) H'
def sp__law_list (K : PySem.W.Frag) : Sp := fun vs H Q _ => ∃ (a : Addr) (v : V) (row : List Int) (ST : List (List (Option Bool))), vs = [.ref a, v] ∧ SqL K H a (row.map V.int) ∧ isRow row 17 ∧ Dp K H v (tabD ST) ∧ ST.length ≤ 100 ∧ (∀ r ∈ ST, r.length = ST.length) ∧
  ∀ (H' : Hp) (p : Addr) (xs : List Int), Same H H' → H p = none → H' p = some (.lst (xs.map V.int)) → xs.length ≤ 12 → Q (.ref p) H'
def sp__law_chain (K : PySem.W.Frag) : Sp := fun vs H Q _ => ∃ (v : V) (ST : List (List (Option Bool))) (l : Addr) (xs : List Int), vs = [v, .ref l] ∧ Dp K H v (tabD ST) ∧ (∀ r ∈ ST, r.length = ST.length) ∧ ST.length ≤ 100 ∧ SqL K H l (xs.map V.int) ∧ xs.length ≤ 1000000 ∧ Q (opV (chainR (tabS ST) ST.length xs)) H
def sp__law_same_answer (K : PySem.W.Frag) : Sp := fun vs H Q _ => ∃ (o : Option Bool), vs = [opV o, opV o] ∧ Q (.bl true) H
def sp_ratio (K : PySem.W.Frag) : Sp := fun vs H Q _ => ∃ p q : Int, vs = [.int p, .int q] ∧ q ≠ 0 ∧ q.natAbs < 2 ^ 9000 ∧ rF K H (Rat.divInt p q) Q
def sp_add (K : PySem.W.Frag) : Sp := fun vs H Q _ => ∃ (a b : Addr) (r s : Rat), vs = [.ref a, .ref b] ∧ IsF K H a r ∧ IsF K H b s ∧ Sz 4000 r ∧ Sz 4000 s ∧ rF K H (r + s) Q
def sp_mul (K : PySem.W.Frag) : Sp := fun vs H Q _ => ∃ (a b : Addr) (r s : Rat), vs = [.ref a, .ref b] ∧ IsF K H a r ∧ IsF K H b s ∧ Sz 4000 r ∧ Sz 4000 s ∧ rF K H (r * s) Q
def sp_dot (K : PySem.W.Frag) : Sp := fun vs H Q _ => ∃ (a b : Addr) (rs ss : List Rat) (B : Nat), vs = [.ref a, .ref b] ∧ FsAt K H a rs ∧ FsAt K H b ss ∧ rs.length = ss.length ∧ (∀ r ∈ rs, Sz B r) ∧ (∀ s ∈ ss, Sz B s) ∧ 1 + rs.length * (2 * B + 1) ≤ 4000 ∧ rF K H (dotR rs ss) Q
def sp_cost (K : PySem.W.Frag) : Sp := fun vs H Q _ => ∃ (a b : Addr) (rs ss : List Rat) (B : Nat), vs = [.ref a, .ref b] ∧ FsAt K H a rs ∧ FsAt K H b ss ∧ rs.length = ss.length ∧ (∀ r ∈ rs, Sz B r) ∧ (∀ s ∈ ss, Sz B s) ∧ 1 + rs.length * (2 * B + 1) ≤ 4000 ∧ rF K H (dotR rs ss) Q
def sp_spent (K : PySem.W.Frag) : Sp := fun vs H Q _ => ∃ (a : Addr) (g : Nat) (bs : List Buy) (ls : List Lnk) (i : Nat) (b : Buy), vs = [.ref a, .int (i : Int)] ∧ DataAt K H a g bs ls ∧ bs[i]? = some b ∧ okBuy g b ∧ g ≤ 8 ∧ rF K H (dotR b.1 b.2) Q
def sp_at_most (K : PySem.W.Frag) : Sp := fun vs H Q _ => ∃ (a b : Addr) (r s : Rat), vs = [.ref a, .ref b] ∧ IsF K H a r ∧ IsF K H b s ∧ Sz 4000 r ∧ Sz 4000 s ∧ Q (.bl (decide (r ≤ s))) H
def sp_less (K : PySem.W.Frag) : Sp := fun vs H Q _ => ∃ (a b : Addr) (r s : Rat), vs = [.ref a, .ref b] ∧ IsF K H a r ∧ IsF K H b s ∧ Sz 4000 r ∧ Sz 4000 s ∧ Q (.bl (decide (r < s))) H
def sp_step (K : PySem.W.Frag) : Sp := fun vs H Q _ => ∃ (a : Addr) (g : Nat) (bs : List Buy) (ls : List Lnk) (i j : Nat), vs = [.ref a, .int (i : Int), .int (j : Int)] ∧ DataAt K H a g bs ls ∧ g ≤ 4 ∧ (∀ b ∈ bs, okBuy g b) ∧ i < bs.length ∧ j < bs.length ∧ ∀ H', Same H H' → Q (opV (stepR bs ls i j)) H'
def sp_judge_chain (K : PySem.W.Frag) (tb : Addr) : Sp := fun vs H Q _ => ∃ (a : Addr) (g : Nat) (bs : List Buy) (ls : List Lnk) (l : Addr) (xs : List Int), vs = [.ref a, .ref l] ∧ DataAt K H a g bs ls ∧ g ≤ 4 ∧ bs.length ≤ 100 ∧ (∀ b ∈ bs, okBuy g b) ∧ SqL K H l (xs.map V.int) ∧ xs.length ≤ 1000 ∧ GxR.TabG H tb ∧
  ∀ H', SameP tb H H' → Q (opV (chainR (tabS (stepsR bs ls)) bs.length xs)) H'
def sp_law (K : PySem.W.Frag) (tb : Addr) : Sp := fun vs H Q _ => ∃ (a : Addr) (ns : List Int), vs = [.ref a] ∧ SqL K H a (ns.map V.int) ∧ ns.length ≤ 63 ∧ GxR.TabG H tb ∧ ∀ H', Q (.bl true) H'
theorem ok__law_row {f : Addr} {fd : FuncData} (F : Fun K "_law_row" "_law_row" s__law_row f fd) (m_range : mg "range" = none) (m_len : mg "len" = none) (m_int : mg "int" = none) : FnOk P w K mg base CX0 1 f fd ["_law_script", "_law_place", "_law_many"] (sp__law_row K) := by
  refine F.ok sc__law_row (fun vs H Q E h => ?_) (fun cdv A outer s H vs Q E hr h => ?_)
  · obtain ⟨a, ns, pl, m, rfl, _⟩ := h
    rfl
  · refine ⟨_, (pss_cons (ps_set (i := 3) sc__law_row.nd rfl (Or.inl rfl) (pe_op op_add (pe_op op_mulG pe_int (pv 1)) pe_int))
      (C8.pss_cut (ps_if (pt_cmpR op_lt (pv 1) (pe_callB call_len_seq (by rfl) m_len (by decide +kernel) (pa_cons (pv 0) pa_nil)) (nomark _))
      (pss_one (ps_set (i := 3) sc__law_row.nd rfl (Or.inl rfl) (pe_ix ix_list (pv 0) (pv 1) (fun _ _ => rfl))))
      pss_nil)
      (pss_cons (ps_set (i := 4) sc__law_row.nd rfl (Or.inl rfl) (pe_op op_sub (pv 3) (pe_op op_pow pe_int pe_int)))
      (pss_cons (ps_set (i := 5) sc__law_row.nd rfl (Or.inl rfl) (pe_lst pa_nil))
      (pss_cons (ps_for PassesOwn.never rfl (pi_range1 rfl m_range (pa_cons (pv 2) pa_nil)) (pg_name (i := 6) sc__law_row.nd rfl (Or.inl rfl))
      (pss_one (ps_if (pt_cmpR op_gt (pv 4) pe_int (nomark _))
      (pss_cons (ps_expr (pe_bm PySem.F.plainAttrs_list PySem.F.slot_list_append PySem.F.type_list_append mt_append (pv 5) (pa_cons (pe_op op_mod (pe_callTy call_int1 (by rfl) m_int (by decide +kernel) (pa_cons (pv 4) pa_nil)) pe_int) pa_nil)))
      (pss_one (ps_set (i := 4) sc__law_row.nd rfl (Or.inl rfl) (pe_op op_fdiv (pv 4) pe_int))))
      (pss_cons (ps_set (i := 7) sc__law_row.nd rfl (Or.inl rfl) (pe_op op_mod (pe_callTy call_int1 (by rfl) m_int (by decide +kernel) (pa_cons (pe_op op_add (pe_op op_add (pe_op op_mulG (pv 3) pe_int) (pe_op op_mulG (pv 6) pe_int)) pe_int) pa_nil)) pe_int))
      (pss_cons (ps_set (i := 7) sc__law_row.nd rfl (Or.inl rfl) (pe_op op_mod (pe_callTy call_int1 (by rfl) m_int (by decide +kernel) (pa_cons (pe_op op_add (pe_op op_add (pe_op op_mulG (pv 7) (pv 7)) (pe_op op_mulG (pv 7) pe_int)) (pe_op op_mulG (pv 6) pe_int)) pa_nil)) pe_int))
      (pss_one (ps_expr (pe_bm PySem.F.plainAttrs_list PySem.F.slot_list_append PySem.F.type_list_append mt_append (pv 5) (pa_cons (pe_op op_mod (pe_op op_fdiv (pv 7) pe_int) pe_int) pa_nil)))))))))
      (pss_one (ps_ret (pv 5)))))))), ?_⟩
    obtain ⟨a, ns, pl, m, rfl, hS, hm, Z⟩ := h
    refine ⟨_, rfl, _, _, rfl, rfl, mulG_l (by decide), _, _, rfl, rfl, ?_⟩
    refine ⟨fun σ H1 => H1 = H ∧ ∃ c : Int, σ = [some (.ref a), some (.int (pl : Int)), some (.int (m : Int)), some (.int c), none, none, none, none], ?_, ?_⟩
    · refine ⟨_, rfl, _, rfl, a, _, rfl, .inl hS, _, _, rfl, rfl, _, rfl, ite2 (fun e => ?_) (fun e => ⟨rfl, _, rfl⟩)⟩
      have e' : (pl : Int) < (ns.map V.int).length := of_decide_eq_true e
      rw [List.length_map] at e'
      have g : (ns.map V.int)[pl]? = some (.int (ns[pl]'(by omega))) := by
        rw [List.getElem?_map, List.getElem?_eq_getElem (by omega)]
        rfl
      exact ⟨_, rfl, _, rfl, _, _, _, _, rfl, rfl, hS, atI_nat g, rfl, _, rfl⟩
    · rintro σ H1 ⟨rfl, c, rfl⟩
      refine ⟨_, rfl, _, _, rfl, rfl, ⟨by decide, by decide, by decide⟩, _, _, rfl, rfl, Nat.zero_le _, fun o no => ?_⟩
      refine ⟨_, rfl, _, rfl, by omega, by omega, ?_⟩
      refine for_range (lo := 0) (n := m) (fun i σ H2 => ∃ (r : Int) (y6 y7 : Option V), σ = [some (.ref a), some (.int (pl : Int)), some (.int (m : Int)), some (.int c), some (.int r), some (.ref o), y6, y7] ∧ RowAt H1 H2 o i)
        ⟨_, _, _, rfl, RowAt.start no⟩ ?_ ?_
      · rintro i σ H2 hi ⟨r, y6, y7, rfl, ra⟩
        obtain ⟨_, sm, rw, hrw, eo⟩ := id ra
        have hsz : (rw.map V.int).length < sizeLine := by
          rw [List.length_map, hrw.1]; exact small1000 (by omega)
        refine ⟨_, rfl, _, _, rfl, rfl, _, rfl, ite2 (fun e => ?_) (fun e => ?_)⟩
        · refine ⟨_, rfl, .inl ⟨rfl, _, .inl (.inl eo)⟩, _, rfl, .inl ⟨_, rfl, _, _, rfl, rfl, by show (0 : Int) < 1000; decide, _, _, _, rfl, rfl, eo, hsz, ?_⟩⟩
          refine ⟨_, rfl, _, _, rfl, rfl, ⟨by decide, by decide⟩, ?_⟩
          exact ⟨_, _, _, rfl, ra.push eo (by omega) (by omega)⟩
        · refine ⟨_, rfl, _, _, rfl, rfl, mulG_r (by decide), _, rfl, _, _, rfl, rfl, mulG_r (by decide), _, _, rfl, rfl, _, _, rfl, rfl, .inl ⟨_, rfl, _, _, rfl, rfl, by show (0 : Int) < 2147483647; decide, ?_⟩⟩
          refine ⟨_, rfl, _, rfl, _, _, rfl, rfl, mulG_l (by omega), _, rfl, _, _, rfl, rfl, mulG_r (by decide), _, _, rfl, rfl, _, rfl, _, _, rfl, rfl, mulG_r (by decide), _, _, rfl, rfl, .inl ⟨_, rfl, _, _, rfl, rfl, by show (0 : Int) < 2147483399; decide, ?_⟩⟩
          refine ⟨_, rfl, .inl ⟨rfl, _, .inl (.inl eo)⟩, _, rfl, _, _, rfl, rfl, ⟨by decide, by decide⟩, _, _, rfl, rfl, by show (0 : Int) < 1000; decide, _, _, _, rfl, rfl, eo, hsz, ?_⟩
          exact ⟨_, _, _, rfl, ra.push eo (by omega) (by omega)⟩
      · rintro σ H2 ⟨r, y6, y7, rfl, _, sm, rw, hrw, eo⟩
        exact ⟨_, rfl, Z _ _ _ sm no hrw eo⟩
theorem ok__law_gcd {f : Addr} {fd : FuncData} (F : Fun K "_law_gcd" "_law_gcd" s__law_gcd f fd) (m_range : mg "range" = none) (m_int : mg "int" = none) : FnOk P w K mg base CX0 1 f fd ["_law_a", "_law_b"] (sp__law_gcd K) := by
  refine F.ok sc__law_gcd (fun vs H Q E h => ?_) (fun cdv A outer s H vs Q E hr h => ?_)
  · obtain ⟨a, b, rfl, _⟩ := h
    rfl
  · refine ⟨_, (pss_cons (ps_for PassesOwn.never rfl (pi_range1 rfl m_range (pa_cons (pe_op op_add (pe_op op_mulG pe_int (pe_bits (pv 1))) pe_int) pa_nil)) (pg_name (i := 2) sc__law_gcd.nd rfl (Or.inl rfl))
      (pss_cons (ps_if (pt_cmpR op_eq (pv 1) pe_int (nomark _))
      (pss_one (ps_ret (pv 0)))
      pss_nil)
      (pss_one (ps_par (i := 0) (j := 1) rfl sc__law_gcd.nd rfl rfl (by decide) rfl rfl (pa_cons (pv 1) (pa_cons (pe_op op_mod (pe_callTy call_int1 (by rfl) m_int (by decide +kernel) (pa_cons (pv 0) pa_nil)) (pv 1)) pa_nil)) (by rfl)))))
      (pss_one (ps_ret (pv 0)))), ?_⟩
    obtain ⟨a, b, rfl, ha, hb, hs, Z⟩ := h
    obtain ⟨a, rfl⟩ := Int.eq_ofNat_of_zero_le ha
    obtain ⟨b, rfl⟩ := Int.eq_ofNat_of_zero_le hb
    rw [Int.natAbs_natCast] at hs
    rw [Int.natAbs_natCast, Int.natAbs_natCast] at Z
    obtain ⟨L, hL, hbits⟩ : ∃ L : Nat, L ≤ 9001 ∧ Builtin.Int.intBits (b : Int) = L := ⟨_, bits_le hs, rfl⟩
    refine ⟨_, rfl, _, rfl, _, _, rfl, rfl, mulG_l (by decide), _, _, rfl, rfl, ?_⟩
    rw [hbits]
    refine ⟨_, rfl, by omega, by omega, ?_⟩
    refine for_range (lo := 0) (n := 2 * L + 2) (fun i σ H1 => H1 = H ∧ ∃ (a' b' : Nat) (y : Option V), σ = [some (.int (a' : Int)), some (.int (b' : Int)), y] ∧ Euc L (Nat.gcd a b) i a' b') ⟨rfl, a, b, _, rfl, euc_start (bits_lt hbits)⟩ ?_ ?_
    · rintro i σ H1 hi ⟨rfl, a', b', y, rfl, he⟩
      refine ⟨_, rfl, rfl, _, rfl, ite2 (fun e => ?_) (fun e => ?_)⟩
      · have e' : (b' : Int) = 0 := V.int.inj (of_decide_eq_true e)
        have e2 : b' = 0 := by omega
        subst e2
        refine ⟨_, rfl, ?_⟩
        rw [euc_zero he]
        exact Z
      · have e' : b' ≠ 0 := fun z => e (decide_eq_true (by rw [z]; rfl))
        refine ⟨_, rfl, _, rfl, .inl ⟨_, rfl, _, rfl, _, _, rfl, rfl, by show (0 : Int) < b'; omega, _, _, rfl, ?_⟩⟩
        exact ⟨rfl, b', a' % b', _, rfl, euc_step he e'⟩
    · rintro σ H1 ⟨rfl, a', b', y, rfl, he⟩
      refine ⟨_, rfl, ?_⟩
      rw [euc_end he]
      exact Z
theorem ok__law_lowest {f : Addr} {fd : FuncData} (F : Fun K "_law_lowest" "_law_lowest" s__law_lowest f fd) (D__law_gcd : Dn P w K mg base CX0 1 "_law_gcd" (sp__law_gcd K)) (m_abs : mg "abs" = none) : FnOk P w K mg base CX0 2 f fd ["_law_p", "_law_q"] (sp__law_lowest K) := by
  refine F.ok sc__law_lowest (fun vs H Q E h => ?_) (fun cdv A outer s H vs Q E hr h => ?_)
  · obtain ⟨p, q, rfl, _⟩ := h
    rfl
  · refine ⟨_, (pss_cons (ps_set (i := 2) sc__law_lowest.nd rfl (Or.inl rfl) (pe_d D__law_gcd hr (by decide) (by rfl) pass0 (pa_cons (pe_callB call_abs (by rfl) m_abs (by decide +kernel) (pa_cons (pv 0) pa_nil)) (pa_cons (pv 1) pa_nil))))
      (pss_one (ps_ret (pe_tup (pa_cons (pe_op op_fdivG (pv 0) (pv 2)) (pa_cons (pe_op op_fdivG (pv 1) (pv 2)) pa_nil)))))), ?_⟩
    obtain ⟨p, q, rfl, hq, hs, Z⟩ := h
    have c := ratio_common (p := p) (Int.ne_of_gt hq)
    have e1 := ratio_num (p := p) (Int.ne_of_gt hq)
    have e2 := ratio_den (p := p) (Int.ne_of_gt hq)
    rw [if_neg (show ¬ q < 0 by omega)] at c e1 e2
    refine ⟨_, rfl, _, rfl, _, rfl, _, _, rfl, abs_nn p, by omega, hs, ?_⟩
    rw [abs_na p]
    refine ⟨_, rfl, _, rfl, _, _, rfl, rfl, ⟨c.1, Nat.lt_of_le_of_lt c.2 hs⟩, _, rfl, _, rfl, _, _, rfl, rfl, ⟨c.1, Nat.lt_of_le_of_lt c.2 hs⟩, by show 2 ≤ sizeLine; decide, fun a ha => ?_⟩
    refine Z _ a (same_upd ha) ha (SqT.of ?_)
    rw [upd_same, ← e1, ← e2]
theorem ok__law_long {f : Addr} {fd : FuncData} (F : Fun K "_law_long" "_law_long" s__law_long f fd) (m_range : mg "range" = none) : FnOk P w K mg base CX0 1 f fd ["_law_row_here", "_law_start", "_law_many"] (sp__law_long K) := by
  refine F.ok sc__law_long (fun vs H Q E h => ?_) (fun cdv A outer s H vs Q E hr h => ?_)
  · obtain ⟨a, row, st, m, n, b, rfl, _⟩ := h
    rfl
  · refine ⟨_, (pss_cons (ps_set (i := 3) sc__law_long.nd rfl (Or.inl rfl) pe_int)
      (pss_cons (ps_for PassesOwn.never rfl (pi_range1 rfl m_range (pa_cons (pv 2) pa_nil)) (pg_name (i := 4) sc__law_long.nd rfl (Or.inl rfl))
      (pss_one (ps_set (i := 3) sc__law_long.nd rfl (Or.inl rfl) (pe_op op_add (pe_op op_mulG (pv 3) pe_int) (pe_ix ix_list (pv 0) (pe_op op_add (pv 1) (pv 4)) (fun _ _ => rfl))))))
      (pss_one (ps_ret (pv 3))))), ?_⟩
    obtain ⟨a, row, st, m, n, b, rfl, hS, hrow, h0, h1, hb, hst, hn, Z⟩ := h
    obtain ⟨st, rfl⟩ := Int.eq_ofNat_of_zero_le h0
    obtain ⟨m, rfl⟩ := Int.eq_ofNat_of_zero_le h1
    refine ⟨_, rfl, _, rfl, by omega, by omega, ?_⟩
    refine for_range (lo := 0) (n := m) (fun i σ H2 => H2 = H ∧ ∃ (x : Int) (y : Option V), σ = [some (.ref a), some (.int (st : Int)), some (.int (m : Int)), some (.int x), y] ∧ 0 ≤ x ∧ x.natAbs < 1000 ^ i) ⟨rfl, 0, _, rfl, by decide, by decide⟩ ?_ ?_
    · rintro i σ H2 hi ⟨rfl, x, y, rfl, h0, h1⟩
      obtain ⟨v, hv, v0, v1⟩ := hrow.at (st + i) (by omega)
      have hv' : atI (row.map V.int) ((st : Int) + (0 + (i : Int))) = some (.int v) := by
        rw [← hv]; congr 1; omega
      refine ⟨_, rfl, _, _, rfl, rfl, mulG_b (b := 10) (Nat.lt_of_lt_of_le h1 (pow1000 i)) (by decide) (by omega), _, rfl, _, rfl, _, rfl, _, _, rfl, rfl, _, _, _, _, rfl, rfl, hS, hv', _, _, rfl, rfl, rfl, _, _, rfl, by omega, ?_⟩
      rw [Nat.pow_succ]
      omega
    · rintro σ H2 ⟨rfl, x, y, rfl, h0, h1⟩
      exact ⟨_, rfl, Z x h0 (Nat.lt_of_lt_of_le h1 (Nat.le_trans (pow1000 m) (Nat.pow_le_pow_right (by decide) (by omega)))) (Nat.lt_of_lt_of_le h1 (Nat.pow_le_pow_right (by decide) (by omega)))⟩
theorem ok__law_purchase {f : Addr} {fd : FuncData} (F : Fun K "_law_purchase" "_law_purchase" s__law_purchase f fd) (D__law_lowest : Dn P w K mg base CX0 2 "_law_lowest" (sp__law_lowest K)) (D__law_long : Dn P w K mg base CX0 1 "_law_long" (sp__law_long K)) (m_range : mg "range" = none) (m_max : mg "max" = none) (m_int : mg "int" = none) : FnOk P w K mg base CX0 3 f fd ["_law_row_here", "_law_shape", "_law_goods", "_law_kind"] (sp__law_purchase K) := by
  refine F.ok sc__law_purchase (fun vs H Q E h => ?_) (fun cdv A outer s H vs Q E hr h => ?_)
  · obtain ⟨a, a2, row, shape, g, kd, rfl, _⟩ := h
    rfl
  · refine ⟨_, (pss_cons (ps_set (i := 4) sc__law_purchase.nd rfl (Or.inl rfl) (pe_lst pa_nil))
      (pss_cons (ps_set (i := 5) sc__law_purchase.nd rfl (Or.inl rfl) (pe_lst pa_nil))
      (pss_cons (ps_for PassesOwn.never rfl (pi_range1 rfl m_range (pa_cons (pv 2) pa_nil)) (pg_name (i := 6) sc__law_purchase.nd rfl (Or.inl rfl))
      (pss_cons (ps_set (i := 7) sc__law_purchase.nd rfl (Or.inl rfl) (pe_d D__law_lowest hr (by decide) (by rfl) pass0 (pa_cons (pe_op op_add pe_int (pe_op op_mod (pe_callTy call_int1 (by rfl) m_int (by decide +kernel) (pa_cons (pe_ix ix_list (pv 0) (pe_op op_mulG pe_int (pv 6)) (fun _ _ => rfl)) pa_nil)) pe_int)) (pa_cons (pe_op op_add pe_int (pe_op op_mod (pe_callTy call_int1 (by rfl) m_int (by decide +kernel) (pa_cons (pe_ix ix_list (pv 0) (pe_op op_add (pe_op op_mulG pe_int (pv 6)) pe_int) (fun _ _ => rfl)) pa_nil)) pe_int)) pa_nil))))
      (pss_cons (ps_set (i := 8) sc__law_purchase.nd rfl (Or.inl rfl) (pe_d D__law_lowest hr (by decide) (by rfl) pass0 (pa_cons (pe_op op_mod (pe_callTy call_int1 (by rfl) m_int (by decide +kernel) (pa_cons (pe_ix ix_list (pv 0) (pe_op op_add (pe_op op_mulG pe_int (pv 6)) pe_int) (fun _ _ => rfl)) pa_nil)) pe_int) (pa_cons (pe_op op_add pe_int (pe_op op_mod (pe_callTy call_int1 (by rfl) m_int (by decide +kernel) (pa_cons (pe_ix ix_list (pv 0) (pe_op op_add (pe_op op_mulG pe_int (pv 6)) pe_int) (fun _ _ => rfl)) pa_nil)) pe_int)) pa_nil))))
      (C8.pss_cut (ps_if (pt_cmpR op_eq (pv 3) pe_int (nomark _))
      (pss_one (ps_set (i := 7) sc__law_purchase.nd rfl (Or.inl rfl) (pe_tup (pa_cons (pe_op op_add pe_int (pe_op op_mod (pe_callTy call_int1 (by rfl) m_int (by decide +kernel) (pa_cons (pe_ix ix_list (pv 0) (pe_op op_mulG pe_int (pv 6)) (fun _ _ => rfl)) pa_nil)) pe_int)) (pa_cons pe_int pa_nil)))))
      pss_nil)
      (C8.pss_cut (ps_if (pt_cmpR op_eq (pv 3) pe_int (nomark _))
      (pss_one (ps_set (i := 7) sc__law_purchase.nd rfl (Or.inl rfl) (pe_tup (pa_cons (pe_op op_add pe_int (pe_op op_mod (pe_callTy call_int1 (by rfl) m_int (by decide +kernel) (pa_cons (pe_ix ix_list (pv 1) (pe_op op_add pe_int (pv 6)) (fun _ _ => rfl)) pa_nil)) pe_int)) (pa_cons pe_int pa_nil)))))
      pss_nil)
      (C8.pss_cut (ps_if (PW.pt (pw_or (pt_cmpR op_eq (pv 3) pe_int (nomark _)) (pw_or1 (pt_cmpR op_eq (pv 3) pe_int (nomark _)))))
      (pss_one (ps_set (i := 8) sc__law_purchase.nd rfl (Or.inl rfl) (pe_tup (pa_cons (pe_op op_mod (pe_callTy call_int1 (by rfl) m_int (by decide +kernel) (pa_cons (pe_ix ix_list (pv 0) (pe_op op_add (pe_op op_mulG pe_int (pv 6)) pe_int) (fun _ _ => rfl)) pa_nil)) pe_int) (pa_cons pe_int pa_nil)))))
      pss_nil)
      (C8.pss_cut (ps_if (pt_cmpR op_eq (pv 3) pe_int (nomark _))
      (pss_one (ps_set (i := 8) sc__law_purchase.nd rfl (Or.inl rfl) (pe_d D__law_lowest hr (by decide) (by rfl) pass0 (pa_cons (pe_op op_mulG (pe_op op_mulG (pe_op op_add pe_int (pe_op op_mod (pe_callTy call_int1 (by rfl) m_int (by decide +kernel) (pa_cons (pe_ix ix_list (pv 1) (pe_op op_add pe_int (pv 6)) (fun _ _ => rfl)) pa_nil)) pe_int)) (pe_op op_add pe_int (pe_op op_mod (pe_callTy call_int1 (by rfl) m_int (by decide +kernel) (pa_cons (pe_ix ix_list (pv 0) pe_int (fun _ _ => rfl)) pa_nil)) pe_int))) (pe_ix ix_tup (pv 7) pe_int (fun _ _ => rfl))) (pa_cons (pe_ix ix_tup (pv 7) pe_int (fun _ _ => rfl)) pa_nil)))))
      pss_nil)
      (C8.pss_cut (ps_if (pt_cmpR op_eq (pv 3) pe_int (nomark _))
      (pss_cons (ps_set (i := 7) sc__law_purchase.nd rfl (Or.inl rfl) (pe_d D__law_lowest hr (by decide) (by rfl) pass0 (pa_cons (pe_op op_add pe_int (pe_d D__law_long hr (by decide) (by rfl) pass0 (pa_cons (pv 0) (pa_cons (pe_op op_mulG pe_int (pv 6)) (pa_cons pe_int pa_nil))))) (pa_cons (pe_op op_add pe_int (pe_ix ix_list (pv 0) (pe_op op_add (pe_op op_mulG pe_int (pv 6)) pe_int) (fun _ _ => rfl))) pa_nil))))
      (pss_one (ps_set (i := 8) sc__law_purchase.nd rfl (Or.inl rfl) (pe_d D__law_lowest hr (by decide) (by rfl) pass0 (pa_cons (pe_d D__law_long hr (by decide) (by rfl) pass0 (pa_cons (pv 0) (pa_cons (pe_op op_add (pe_op op_mulG pe_int (pv 6)) pe_int) (pa_cons pe_int pa_nil)))) (pa_cons (pe_op op_add pe_int (pe_ix ix_list (pv 0) (pe_op op_mulG pe_int (pv 6)) (fun _ _ => rfl))) pa_nil))))))
      pss_nil)
      (pss_cons (ps_expr (pe_bm PySem.F.plainAttrs_list PySem.F.slot_list_append PySem.F.type_list_append mt_append (pv 4) (pa_cons (pv 7) pa_nil)))
      (pss_one (ps_expr (pe_bm PySem.F.plainAttrs_list PySem.F.slot_list_append PySem.F.type_list_append mt_append (pv 5) (pa_cons (pv 8) pa_nil)))))))))))))
      (C8.pss_cut (ps_if (pt_cmpR op_eq (pe_callB (cr_max rfl) (by rfl) m_max (by decide +kernel) (pa_cons (pe_lc (own := [("_law_x", 9)]) (g := gName 9) (tt := tYes) rfl sc__law_purchase.nd (pi_list (pv 5)) (blkOk_by (N := N__law_purchase) (sc := defScope s__law_purchase) (by decide +kernel)) (fun _ _ _ _ _ => (pg_name (i := 9) sc__law_purchase.nd rfl (Or.inl rfl))) (fun _ _ _ _ _ => pts_nil) (fun _ _ _ _ _ => (pe_ix (ix_tupK (K := K) rfl) (pv 9) pe_int (fun _ _ => rfl)))) pa_nil)) pe_int (nomark _))
      (pss_one (ps_asg (pe_tup (pa_cons pe_int (pa_cons pe_int pa_nil))) (pg_sub (pv 5) (pe_op op_sub (pv 2) pe_int) set_list)))
      pss_nil)
      (pss_one (ps_ret (pe_tup (pa_cons (pv 4) (pa_cons (pv 5) pa_nil))))))))), ?_⟩
    obtain ⟨a, a2, row, shape, g, kd, rfl, hR, hr, hS, hs, g1, g4, Z⟩ := h
    refine ⟨(show 0 ≤ sizeLine by decide), fun pP nP => (show _ from ⟨(show 0 ≤ sizeLine by decide), fun pA nA => ?_⟩)⟩
    have nPA : pP ≠ pA := fun z => by rw [← z, upd_same] at nA; cases nA
    have sP : Same H (upd H pP (.lst [])) := same_upd nP
    have sA : Same H (upd (upd H pP (.lst [])) pA (.lst [])) := sP.trans (same_upd nA)
    have hnA : H pA = none := sP.free nA
    refine ⟨_, rfl, _, rfl, by omega, by omega, ?_⟩
    refine for_range (lo := 0) (n := g) (growP K a a2 pP pA g kd H) ⟨sA, nPA, _, _, _, [], [], rfl, ?_, ?_, rfl, rfl, (fun r hr => by cases hr), (fun r hr => by cases hr)⟩ ?_ ?_
    · exact (Gr.start (Same.refl _) nP (by simp)).other (by simp) nPA
    · exact Gr.start sP nA (by simp)
    · rintro i σ H1 hi ⟨s1, _, y6, y7, y8, ps, as, rfl, gP, gA, lp, la, fp, fa⟩
      have hR1 := s1.seq hR
      have hS1 := s1.seq hS
      have atc : ∀ c : Nat, c < 8 → ∃ v : Int, atI (row.map V.int) (8 * (0 + (i : Int)) + (c : Int)) = some (.int v) ∧ 0 ≤ v ∧ v < 1000 := fun c hc => by
        obtain ⟨v, h1, h2⟩ := hr.at (8 * i + c) (by omega)
        refine ⟨v, ?_, h2⟩
        rw [← h1]
        congr 1
        omega
      obtain ⟨v0, a0, b0, c0⟩ := atc 0 (by decide)
      rw [show (8 * (0 + (i : Int)) + ((0 : Nat) : Int)) = 8 * (0 + (i : Int)) by omega] at a0
      obtain ⟨v1, a1, b1, c1⟩ := atc 1 (by decide)
      obtain ⟨v2, a2', b2, c2⟩ := atc 2 (by decide)
      obtain ⟨v3, a3, b3, c3⟩ := atc 3 (by decide)
      obtain ⟨v4, a4, b4, c4⟩ := atc 4 (by decide)
      refine ⟨_, rfl, _, rfl, _, _, rfl, rfl, mulG_l (by decide), _, _, _, _, rfl, rfl, hR1, a0, .inl ⟨_, rfl, _, _, rfl, rfl, by show (0 : Int) < 12; decide, _, _, rfl, rfl, ?_⟩⟩
      refine ⟨_, rfl, _, rfl, _, _, rfl, rfl, mulG_l (by decide), _, _, rfl, rfl, _, _, _, _, rfl, rfl, hR1, a1, .inl ⟨_, rfl, _, _, rfl, rfl, by show (0 : Int) < 5; decide, _, _, rfl, rfl, ?_⟩⟩
      have pw9 : ∀ x : Int, x.natAbs < 2 ^ 60 → x.natAbs < 2 ^ 9000 := fun x hx => Nat.lt_of_lt_of_le hx (Nat.pow_le_pow_right (by decide) (by decide))
      refine ⟨_, _, rfl, by omega, pw9 _ (by omega), fun H2 p7 s2 n7 h7 => ?_⟩
      have z7 : Sz 50 (Rat.divInt (1 + v0 % 12) (1 + v1 % 5)) := divInt_sz (by omega) (by omega) (by omega)
      have g7 : 0 < Rat.divInt (1 + v0 % 12) (1 + v1 % 5) := divInt_pos (by omega) (by omega)
      have hR2 := s2.seq hR1
      refine ⟨_, rfl, _, rfl, _, _, rfl, rfl, mulG_l (by decide), _, _, rfl, rfl, _, _, _, _, rfl, rfl, hR2, a2', .inl ⟨_, rfl, _, _, rfl, rfl, by show (0 : Int) < 7; decide, ?_⟩⟩
      refine ⟨_, rfl, _, rfl, _, _, rfl, rfl, mulG_l (by decide), _, _, rfl, rfl, _, _, _, _, rfl, rfl, hR2, a3, .inl ⟨_, rfl, _, _, rfl, rfl, by show (0 : Int) < 4; decide, _, _, rfl, rfl, ?_⟩⟩
      refine ⟨_, _, rfl, by omega, pw9 _ (by omega), fun H3 p8 s3 n8 h8 => ?_⟩
      have z8 : Sz 80 (Rat.divInt (v2 % 7) (1 + v3 % 4)) := divInt_sz (by omega) (by omega) (by omega)
      have g8 : 0 ≤ Rat.divInt (v2 % 7) (1 + v3 % 4) := divInt_nonneg (by omega) (by omega)
      have s23 := s2.trans s3
      have h7' := h7.same s3
      generalize Rat.divInt (1 + v0 % 12) (1 + v1 % 5) = r7 at h7' z7 g7
      generalize Rat.divInt (v2 % 7) (1 + v3 % 4) = r8 at h8 z8 g8
      -- kind == 0
      refine ⟨midP K a a2 pP pA g kd (0 + (i : Int)) H1, ?_, ?_⟩
      · refine ⟨_, rfl, rfl, _, rfl, ite2 (fun e => ?_) (fun e => ⟨s23, p7, p8, r7, r8, rfl, h7', g7, z7, h8, g8, z8⟩)⟩
        refine ⟨_, rfl, _, rfl, _, _, rfl, rfl, mulG_l (by decide), _, _, _, _, rfl, rfl, s23.seq hR1, a0, .inl ⟨_, rfl, _, _, rfl, rfl, by show (0 : Int) < 3; decide, _, _, rfl, rfl, by show 2 ≤ sizeLine; decide, fun t nt => ?_⟩⟩
        exact ⟨s23.trans (same_upd nt), t, p8, _, r8, rfl, int_f (SqT.of upd_same), divInt_pos (by omega) (by decide), divInt_sz (by decide) (by omega) (by decide), h8.new nt, g8, z8⟩
      rintro σ H4 ⟨s4, p7, p8, r7, r8, rfl, h7, g7, z7, h8, g8, z8⟩
      -- kind == 4
      obtain ⟨w, aw, bw, cw⟩ := hs.at (4 + i) (by omega)
      have aw' : atI (shape.map V.int) (4 + (0 + (i : Int))) = some (.int w) := by
        rw [← aw]
        congr 1
        omega
      refine ⟨midP K a a2 pP pA g kd (0 + (i : Int)) H1, ?_, ?_⟩
      · refine ⟨_, rfl, rfl, _, rfl, ite2 (fun e => ?_) (fun e => ⟨s4, p7, p8, r7, r8, rfl, h7, g7, z7, h8, g8, z8⟩)⟩
        refine ⟨_, rfl, _, rfl, _, _, rfl, rfl, _, _, _, _, rfl, rfl, s4.seq hS1, aw', .inl ⟨_, rfl, _, _, rfl, rfl, by show (0 : Int) < 3; decide, _, _, rfl, rfl, by show 2 ≤ sizeLine; decide, fun t nt => ?_⟩⟩
        exact ⟨s4.trans (same_upd nt), t, p8, _, r8, rfl, int_f (SqT.of upd_same), divInt_pos (by omega) (by decide), divInt_sz (by decide) (by omega) (by decide), h8.new nt, g8, z8⟩
      rintro σ H5 ⟨s5, p7, p8, r7, r8, rfl, h7, g7, z7, h8, g8, z8⟩
      -- kind == 0 or kind == 4
      refine ⟨midP K a a2 pP pA g kd (0 + (i : Int)) H1, ?_, ?_⟩
      · have body : ∀ (D : Ends) (H2 : Hp), H2 = H5 → D.nx = midP K a a2 pP pA g kd (0 + (i : Int)) H1 → tAsg (tTup (tCons (tOp (rI (fun x j => 0 < j) fun i j => V.int (i % j)) (tCB (fun xs H Q => (∃ i, xs = [V.int i] ∧ Q (V.int i) H) ∨ ∃ k, xs = [V.bl k] ∧ Q (V.int (if k = true then 1 else 0)) H) (tCons (tOp (rIxL K) (tVar 0) (tOp (rI0 fun i j => V.int (i + j)) (tOp (rI CMulG fun i j => V.int (i * j)) (tC (V.int 8)) (tVar 6)) (tC (V.int 2)))) tNil)) (tC (V.int 4))) (tCons (tC (V.int 1)) tNil))) (gName 8) D [some (V.ref a), some (V.ref a2), some (V.int g), some (V.int kd), some (V.ref pP), some (V.ref pA), some (V.int (0 + (i : Int))), some (V.ref p7), some (V.ref p8), none] H2 := by
          intro D H2 eH eD
          subst eH
          refine ⟨_, rfl, _, rfl, _, _, rfl, rfl, mulG_l (by decide), _, _, rfl, rfl, _, _, _, _, rfl, rfl, s5.seq hR1, a2', .inl ⟨_, rfl, _, _, rfl, rfl, by show (0 : Int) < 4; decide, by show 2 ≤ sizeLine; decide, fun t nt => ?_⟩⟩
          show D.nx _ _
          rw [eD]
          exact ⟨s5.trans (same_upd nt), p7, t, r7, _, rfl, h7.new nt, g7, z7, int_f (SqT.of upd_same), divInt_nonneg (by omega) (by decide), divInt_sz (by decide) (by omega) (by decide)⟩
        refine ⟨_, rfl, rfl, _, rfl, ite2 (fun e => ?_) (fun e => ?_)⟩
        · exact body _ _ rfl rfl
        · refine ⟨_, rfl, rfl, _, rfl, ite2 (fun e => body _ _ rfl rfl) (fun e => ⟨s5, p7, p8, r7, r8, rfl, h7, g7, z7, h8, g8, z8⟩)⟩
      rintro σ H6 ⟨s6, p7, p8, r7, r8, rfl, h7, g7, z7, h8, g8, z8⟩
      -- kind == 2
      obtain ⟨x, ax, bx, cx⟩ := hr.at 32 (by decide)
      have m1 : 0 ≤ (1 + w % 5) * (1 + x % 5) := Int.mul_nonneg (by omega) (by omega)
      have m2 : ((1 + w % 5) * (1 + x % 5)).natAbs < 2 ^ 20 := natAbs_mul_lt (a := 10) (b := 10) (by omega) (by omega)
      refine ⟨midP K a a2 pP pA g kd (0 + (i : Int)) H1, ?_, ?_⟩
      · refine ⟨_, rfl, rfl, _, rfl, ite2 (fun e => ?_) (fun e => ⟨s6, p7, p8, r7, r8, rfl, h7, g7, z7, h8, g8, z8⟩)⟩
        refine ⟨_, rfl, _, rfl, _, _, rfl, rfl, _, _, _, _, rfl, rfl, s6.seq hS1, aw', .inl ⟨_, rfl, _, _, rfl, rfl, by show (0 : Int) < 5; decide, _, _, rfl, rfl, ?_⟩⟩
        refine ⟨_, rfl, _, _, _, _, rfl, rfl, s6.seq hR1, ax, .inl ⟨_, rfl, _, _, rfl, rfl, by show (0 : Int) < 5; decide, _, _, rfl, rfl, _, _, rfl, rfl, mulG_l (by omega), _, rfl, _, _, _, _, rfl, rfl, h7, rfl, _, _, rfl, rfl, mulG_l (Nat.lt_of_lt_of_le m2 (by decide)), _, rfl, _, _, _, _, rfl, rfl, h7, rfl, ?_⟩⟩
        refine ⟨_, _, rfl, num_pos g7, Nat.lt_of_lt_of_le z7.1 (Nat.pow_le_pow_right (by decide) (by decide)), fun H7 t s7 nt ht => ?_⟩
        refine ⟨s6.trans s7, p7, t, r7, _, rfl, h7.same s7, g7, z7, ht, divInt_nonneg (Int.mul_nonneg m1 (Int.natCast_nonneg _)) (num_pos g7), divInt_sz (Int.ne_of_gt (num_pos g7)) ?_ (Nat.lt_of_lt_of_le z7.1 (Nat.pow_le_pow_right (by decide) (by decide)))⟩
        exact Nat.lt_of_lt_of_le (natAbs_mul_lt m2 z7.den) (Nat.pow_le_pow_right (by decide) (by decide))
      rintro σ H7 ⟨s7, p7, p8, r7, r8, rfl, h7, g7, z7, h8, g8, z8⟩
      -- kind == 3
      refine ⟨midP K a a2 pP pA g kd (0 + (i : Int)) H1, ?_, ?_⟩
      · refine ⟨_, rfl, rfl, _, rfl, ite2 (fun e => ?_) (fun e => ⟨s7, p7, p8, r7, r8, rfl, h7, g7, z7, h8, g8, z8⟩)⟩
        refine ⟨_, rfl, _, rfl, _, _, rfl, rfl, mulG_l (by decide), _, row, 8 * (0 + (i : Int)), 4, 33, 4, rfl, s7.seq hR1, hr, by omega, by decide, by decide, by omega, by decide, fun x0 y0 y1 _ => ?_⟩
        refine ⟨_, _, rfl, rfl, _, rfl, _, rfl, _, _, rfl, rfl, mulG_l (by decide), _, _, rfl, rfl, _, _, _, _, rfl, rfl, s7.seq hR1, a4, _, _, rfl, rfl, ?_⟩
        refine ⟨_, _, rfl, by omega, pw9 _ (by omega), fun H8 t s8 nt ht => ?_⟩
        refine ⟨_, rfl, _, rfl, _, _, rfl, rfl, mulG_l (by decide), _, _, rfl, rfl, _, row, 8 * (0 + (i : Int)) + 4, 4, 33, 4, rfl, (s7.trans s8).seq hR1, hr, by omega, by decide, by decide, by omega, by decide, fun x1 z0 z1 _ => ?_⟩
        refine ⟨_, rfl, _, rfl, _, _, rfl, rfl, mulG_l (by decide), _, _, _, _, rfl, rfl, (s7.trans s8).seq hR1, a0, _, _, rfl, rfl, ?_⟩
        refine ⟨_, _, rfl, by omega, pw9 _ (by omega), fun H9 u s9 nu hu => ?_⟩
        exact ⟨(s7.trans s8).trans s9, t, u, _, _, rfl, ht.same s9, divInt_pos (by omega) (by omega), divInt_sz (by omega) (by omega) (by omega), hu, divInt_nonneg z0 (by omega), divInt_sz (by omega) (by omega) (by omega)⟩
      rintro σ H8 ⟨s8, p7, p8, r7, r8, rfl, h7, g7, z7, h8, g8, z8⟩
      have gP8 := gP.same s8
      have gA8 := gA.same s8
      have hD8 : ∀ D ∈ [pP, pA], soft (H8 D) = false := fun D hD => by
        rcases List.mem_cons.mp hD with rfl | hD
        · exact gP8.hard
        · rw [List.mem_singleton.mp hD]; exact gA8.hard
      obtain ⟨xs, ex, hxs, gP9⟩ := gP8.push (grow_f (s1.trans s8) hD8 h7) (by rw [List.length_map]; omega)
      have gA9 := gA8.other (D' := pP) (o := .lst (xs ++ [.ref p7])) (by simp) nPA.symm
      have s9 := same_mut (o := .lst (xs ++ [.ref p7])) (s1.trans s8) nP
      have hD9 : ∀ D ∈ [pP, pA], soft (upd H8 pP (.lst (xs ++ [.ref p7])) D) = false := fun D hD => by
        rcases List.mem_cons.mp hD with rfl | hD
        · exact gP9.hard
        · rw [List.mem_singleton.mp hD]; exact gA9.hard
      obtain ⟨ys, ey, hys, gA10⟩ := gA9.push (grow_f s9 hD9 (h8.mut ex)) (by rw [List.length_map]; omega)
      have gP10 := gP9.other (D' := pA) (o := .lst (ys ++ [.ref p8])) (by simp) nPA
      refine ⟨_, rfl, .inl ⟨rfl, _, SqL.of ex⟩, _, rfl, _, _, _, rfl, rfl, ex, hxs, ?_⟩
      refine ⟨_, rfl, .inl ⟨rfl, _, SqL.of ey⟩, _, rfl, _, _, _, rfl, rfl, ey, hys, ?_⟩
      refine ⟨same_mut s9 hnA, nPA, _, _, _, ps ++ [r7], as ++ [r8], rfl, by rw [List.map_append]; exact gP10, by rw [List.map_append]; exact gA10, by rw [List.length_append, lp]; rfl, by rw [List.length_append, la]; rfl, ?_, ?_⟩
      · intro r hr2
        rcases List.mem_append.mp hr2 with hr2 | hr2
        · exact fp r hr2
        · rw [List.mem_singleton.mp hr2]; exact ⟨g7, z7⟩
      · intro r hr2
        rcases List.mem_append.mp hr2 with hr2 | hr2
        · exact fa r hr2
        · rw [List.mem_singleton.mp hr2]; exact ⟨g8, z8⟩
    · rintro σ H1 ⟨s1, _, y6, y7, y8, ps, as, rfl, gP, gA, lp, la, fp, fa⟩
      obtain ⟨xs, hsx, hdx⟩ := gA.seq
      have hlx : xs.length = g := by rw [dpa_len hdx, List.length_map, la]
      refine ⟨fun σ H2 => ∃ as' : List Rat, Same H H2 ∧ Gr K H H2 [pP, pA] pP (ps.map fD) ∧ Gr K H H2 [pP, pA] pA (as'.map fD) ∧ as'.length = g ∧ (∀ r ∈ as', 0 ≤ r ∧ Sz 80 r) ∧ (∃ r ∈ as', 0 < r) ∧ σ = [some (.ref a), some (.ref a2), some (.int g), some (.int kd), some (.ref pP), some (.ref pA), y6, y7, y8, none], ?_, ?_⟩
      · refine ⟨_, rfl, pA, rfl, ⟨_, hsx⟩, fun D nD => ?_⟩
        refine lc_list (xs := xs) (fun j H2 => Same H1 H2 ∧ H2 D = some (.lst (((as.take j).map fun r => r.num).map V.int))) ⟨same_upd nD, upd_same⟩ (fun j H2 _ g => g.1.seq hsx) ?_ ?_
        · rintro j x H2 hx ⟨s2, eD⟩
          refine ⟨rfl, ?_⟩
          obtain ⟨d, hd, hxd⟩ := dpa_got hdx hx
          rw [List.getElem?_map] at hd
          cases hr2 : as[j]? with
          | none => rw [hr2] at hd; cases hd
          | some r =>
            rw [hr2] at hd
            cases Option.some.inj hd
            obtain ⟨p, rfl, hp⟩ := isF_of hxd
            have hp2 := hp.same s2
            have hj : j < as.length := (List.getElem?_eq_some_iff.mp hr2).1
            refine ⟨_, rfl, _, _, _, _, rfl, rfl, hp2, rfl, _, eD, ?_, same_mut s2 nD, ?_⟩
            · rw [List.length_map, List.length_map, List.length_take]
              exact small1000 (by omega)
            · rw [upd_same, List.take_add_one, hr2]
              simp
        · rintro H2 ⟨s2, eD⟩
          rw [hlx, ← la, List.take_of_length_le (Nat.le_refl _)] at eD
          have gP2 := gP.same s2
          have gA2 := gA.same s2
          refine ⟨_, _, rfl, SqL.of eD, by rw [List.length_map]; omega, fun m hm hM => ?_⟩
          refine ⟨rfl, _, rfl, ite2 (fun e => ?_) (fun e => ?_)⟩
          · refine ⟨by show 2 ≤ sizeLine; decide, fun t nt => ?_⟩
            have s3 : Same H2 (upd H2 t (.tup [.int 1, .int 1])) := same_upd nt
            have gP3 := gP2.same s3
            have gA3 := gA2.same s3
            obtain ⟨_, _, zs, ez, _⟩ := id gA3
            have hlz := gA3.len ez
            rw [List.length_map, la] at hlz
            obtain ⟨g', rfl⟩ : ∃ g', g = g' + 1 := ⟨g - 1, by omega⟩
            have hD3 : ∀ D ∈ [pP, pA], soft (upd H2 t (.tup [.int 1, .int 1]) D) = false := fun D hD => by
              rcases List.mem_cons.mp hD with rfl | hD
              · exact gP3.hard
              · rw [List.mem_singleton.mp hD]; exact gA3.hard
            have sAll := s1.trans (s2.trans s3)
            refine ⟨_, rfl, _, rfl, _, _, rfl, rfl, pA, zs, _, g', rfl, rfl, ez, ?_, as.set g' (Rat.divInt 1 1), same_mut sAll hnA, gP3.other (by simp) nPA, ?_, by rw [List.length_set, la], ?_, ?_, rfl⟩
            · rw [hlz, show (((g' + 1 : Nat) : Int) - 1) = (g' : Int) by omega]
              exact ixN_nat (by omega)
            · rw [List.map_set]
              exact gA3.put ez (grow_f sAll hD3 (int_f (SqT.of upd_same)))
            · intro r hr2
              rcases List.mem_or_eq_of_mem_set hr2 with hr2 | rfl
              · exact fa r hr2
              · exact ⟨divInt_nonneg (by decide) (by decide), divInt_sz (by decide) (by decide) (by decide)⟩
            · exact ⟨Rat.divInt 1 1, List.mem_of_getElem? (List.getElem?_set_self (by omega)), divInt_pos (by decide) (by decide)⟩
          · refine ⟨as, s1.trans s2, gP2, gA2, la, fa, ?_, rfl⟩
            obtain ⟨r, hr2, rfl⟩ := List.mem_map.mp hm
            exact ⟨r, hr2, pos_of (fa r hr2).1 fun z => e (decide_eq_true (by rw [z]))⟩
      · rintro σ H2 ⟨as', s2, gP2, gA2, la2, fa2, na2, rfl⟩
        have dP := gP2.done
        have dA := gA2.done
        refine ⟨_, rfl, _, rfl, by show 2 ≤ sizeLine; decide, fun t nt => ?_⟩
        exact Z (ps, as') ⟨lp, la2, fp, fa2, na2⟩ _ _ (s2.trans (same_upd nt)) (new_tup s2 nt (.cons dP (.cons dA .nil)))
theorem ok__law_data {f : Addr} {fd : FuncData} (F : Fun K "_law_data" "_law_data" s__law_data f fd) (D__law_row : Dn P w K mg base CX0 1 "_law_row" (sp__law_row K)) (D__law_purchase : Dn P w K mg base CX0 3 "_law_purchase" (sp__law_purchase K)) (m_range : mg "range" = none) (m_int : mg "int" = none) : FnOk P w K mg base CX0 4 f fd ["_law_script", "_law_place", "_law_most", "_law_linked"] (sp__law_data K) := by
  refine F.ok sc__law_data (fun vs H Q E h => ?_) (fun cdv A outer s H vs Q E hr h => ?_)
  · obtain ⟨a, ns, pl, most, linked, rfl, _⟩ := h
    rfl
  · refine ⟨_, (pss_cons (ps_set (i := 4) sc__law_data.nd rfl (Or.inl rfl) (pe_d D__law_row hr (by decide) (by rfl) pass0 (pa_cons (pv 0) (pa_cons (pv 1) (pa_cons pe_int pa_nil)))))
      (pss_cons (ps_set (i := 5) sc__law_data.nd rfl (Or.inl rfl) (pe_ix ix_list (pe_lst (pa_cons pe_int (pa_cons pe_int (pa_cons pe_int (pa_cons pe_int (pa_cons pe_int (pa_cons pe_int pa_nil))))))) (pe_op op_mod (pe_callTy call_int1 (by rfl) m_int (by decide +kernel) (pa_cons (pe_ix ix_list (pv 4) pe_int (fun _ _ => rfl)) pa_nil)) pe_int) (fun _ _ => rfl)))
      (pss_cons (ps_set (i := 6) sc__law_data.nd rfl (Or.inl rfl) (pe_op op_mod (pe_callTy call_int1 (by rfl) m_int (by decide +kernel) (pa_cons (pe_ix ix_list (pv 4) pe_int (fun _ _ => rfl)) pa_nil)) (pe_op op_add (pv 2) pe_int)))
      (pss_cons (ps_set (i := 7) sc__law_data.nd rfl (Or.inl rfl) (pe_lst pa_nil))
      (pss_cons (ps_for PassesOwn.never rfl (pi_range1 rfl m_range (pa_cons (pv 6) pa_nil)) (pg_name (i := 8) sc__law_data.nd rfl (Or.inl rfl))
      (pss_cons (ps_set (i := 9) sc__law_data.nd rfl (Or.inl rfl) (pe_ix ix_list (pe_lst (pa_cons pe_int (pa_cons pe_int (pa_cons pe_int (pa_cons pe_int (pa_cons pe_int (pa_cons pe_int (pa_cons pe_int (pa_cons pe_int pa_nil))))))))) (pe_op op_mod (pe_callTy call_int1 (by rfl) m_int (by decide +kernel) (pa_cons (pe_ix ix_list (pv 4) pe_int (fun _ _ => rfl)) pa_nil)) pe_int) (fun _ _ => rfl)))
      (pss_one (ps_expr (pe_bm PySem.F.plainAttrs_list PySem.F.slot_list_append PySem.F.type_list_append mt_append (pv 7) (pa_cons (pe_d D__law_purchase hr (by decide) (by rfl) pass0 (pa_cons (pe_d D__law_row hr (by decide) (by rfl) pass0 (pa_cons (pv 0) (pa_cons (pe_op op_add (pe_op op_add (pv 1) pe_int) (pv 8)) (pa_cons pe_int pa_nil)))) (pa_cons (pv 4) (pa_cons (pv 5) (pa_cons (pv 9) pa_nil))))) pa_nil))))))
      (pss_cons (ps_set (i := 10) sc__law_data.nd rfl (Or.inl rfl) (pe_lst pa_nil))
      (pss_cons (ps_set (i := 11) sc__law_data.nd rfl (Or.inl rfl) (pe_d D__law_row hr (by decide) (by rfl) pass0 (pa_cons (pv 0) (pa_cons (pe_op op_add (pv 1) pe_int) (pa_cons pe_int pa_nil)))))
      (C8.pss_cut (ps_if (pt_cmpR op_gt (pv 6) pe_int (nomark _))
      (pss_one (ps_for PassesOwn.never rfl (pi_range1 rfl m_range (pa_cons (pe_op op_mod (pe_callTy call_int1 (by rfl) m_int (by decide +kernel) (pa_cons (pe_ix ix_list (pv 4) pe_int (fun _ _ => rfl)) pa_nil)) (pe_op op_add (pv 3) pe_int)) pa_nil)) (pg_name (i := 12) sc__law_data.nd rfl (Or.inl rfl))
      (pss_one (ps_expr (pe_bm PySem.F.plainAttrs_list PySem.F.slot_list_append PySem.F.type_list_append mt_append (pv 10) (pa_cons (pe_tup (pa_cons (pe_op op_mod (pe_callTy call_int1 (by rfl) m_int (by decide +kernel) (pa_cons (pe_ix ix_list (pv 11) (pe_op op_mulG pe_int (pv 12)) (fun _ _ => rfl)) pa_nil)) (pv 6)) (pa_cons (pe_op op_mod (pe_callTy call_int1 (by rfl) m_int (by decide +kernel) (pa_cons (pe_ix ix_list (pv 11) (pe_op op_add (pe_op op_mulG pe_int (pv 12)) pe_int) (fun _ _ => rfl)) pa_nil)) (pv 6)) (pa_cons (pe_cmpR op_eq (pe_op op_mod (pe_callTy call_int1 (by rfl) m_int (by decide +kernel) (pa_cons (pe_ix ix_list (pv 11) (pe_op op_add (pe_op op_mulG pe_int (pv 12)) pe_int) (fun _ _ => rfl)) pa_nil)) pe_int) pe_int (nomark _)) pa_nil)))) pa_nil))))))
      pss_nil)
      (pss_one (ps_ret (pe_tup (pa_cons (pv 5) (pa_cons (pv 7) (pa_cons (pv 10) pa_nil)))))))))))))), ?_⟩
    obtain ⟨a, ns, pl, most, linked, rfl, hA, hm, hl, Z⟩ := h
    refine ⟨_, rfl, _, rfl, _, _, pl, 9, rfl, hA, by decide, fun H1 pS shape s1 nS hs eS => ?_⟩
    have hS : SqL K H1 pS (shape.map V.int) := SqL.of eS
    obtain ⟨v0, a0, b0, c0⟩ := hs.at 0 (by decide)
    obtain ⟨v1, a1, b1, c1⟩ := hs.at 1 (by decide)
    obtain ⟨v2, a2, b2, c2⟩ := hs.at 2 (by decide)
    obtain ⟨v3, a3, b3, c3⟩ := hs.at 3 (by decide)
    obtain ⟨x6, m6, h6⟩ := atI_mod (xs := [V.int 2, V.int 1, V.int 2, V.int 3, V.int 3, V.int 4]) (n := 6) (by decide) rfl v0
    obtain ⟨g, rfl, g1, g4⟩ : ∃ g : Nat, x6 = .int (g : Int) ∧ 1 ≤ g ∧ g ≤ 4 := by
      simp only [List.mem_cons, List.not_mem_nil, or_false] at m6
      rcases m6 with h | h | h | h | h | h <;> subst h
      · exact ⟨2, rfl, by decide, by decide⟩
      · exact ⟨1, rfl, by decide, by decide⟩
      · exact ⟨2, rfl, by decide, by decide⟩
      · exact ⟨3, rfl, by decide, by decide⟩
      · exact ⟨3, rfl, by decide, by decide⟩
      · exact ⟨4, rfl, by decide, by decide⟩
    refine ⟨(show 6 ≤ sizeLine by decide), fun t nt => ?_⟩
    have s2 := s1.trans (same_upd (o := .lst [.int 2, .int 1, .int 2, .int 3, .int 3, .int 4]) nt)
    have hS2 : SqL K (upd H1 t (.lst [.int 2, .int 1, .int 2, .int 3, .int 3, .int 4])) pS (shape.map V.int) := (same_upd nt).seq hS
    refine ⟨_, rfl, _, _, _, _, rfl, rfl, hS2, a0, .inl ⟨_, rfl, _, _, rfl, rfl, by show (0 : Int) < 6; decide, _, _, _, _, rfl, rfl, SqL.of upd_same, h6, ?_⟩⟩
    have eS2 : upd H1 t (.lst [.int 2, .int 1, .int 2, .int 3, .int 3, .int 4]) pS = some (.lst (shape.map V.int)) := same_upd nt _ _ eS
    generalize upd H1 t (.lst [.int 2, .int 1, .int 2, .int 3, .int 3, .int 4]) = H2 at s2 hS2 eS2
    have hc0 : 0 ≤ v1 % ((most : Int) + 1) := Int.emod_nonneg _ (by omega)
    have hc1 := Int.emod_lt_of_pos v1 (show (0 : Int) < (most : Int) + 1 by omega)
    obtain ⟨cnt, ec⟩ := Int.eq_ofNat_of_zero_le hc0
    refine ⟨_, rfl, _, _, _, _, rfl, rfl, hS2, a1, .inl ⟨_, rfl, _, rfl, _, _, rfl, rfl, _, _, rfl, rfl, (show (0 : Int) < (most : Int) + 1 by omega), ?_⟩⟩
    rw [show (fun i j : Int => V.int (i % j)) v1 ((most : Int) + 1) = V.int (cnt : Int) from congrArg V.int ec]
    refine ⟨(show 0 ≤ sizeLine by decide), fun pB nB => ?_⟩
    have s3 := s2.trans (same_upd (o := .lst []) nB)
    have hSB : pS ≠ pB := fun z => by
      rw [← z, eS2] at nB
      cases nB
    refine ⟨_, rfl, _, rfl, by omega, by omega, ?_⟩
    refine for_range (lo := 0) (n := cnt) (fun i σ H3 => Same H H3 ∧ SqL K H3 pS (shape.map V.int) ∧ ∃ (y8 y9 : Option V) (bs : List Buy), σ = [some (.ref a), some (.int (pl : Int)), some (.int (most : Int)), some (.int (linked : Int)), some (.ref pS), some (.int (g : Int)), some (.int (cnt : Int)), some (.ref pB), y8, y9, none, none, none] ∧ Gr K H H3 [pB] pB (bs.map bD) ∧ bs.length = i ∧ ∀ b ∈ bs, okBuy g b) ⟨s3, (same_upd nB).seq hS2, _, _, [], rfl, Gr.start s2 nB (by simp), rfl, fun b hb => by cases hb⟩ ?_ ?_
    · rintro i σ H3 hi ⟨s3, hS3, y8, y9, bs, rfl, gB, lb, fb⟩
      obtain ⟨x8, m8, h8⟩ := atI_mod (xs := [V.int 0, V.int 1, V.int 2, V.int 4, V.int 0, V.int 1, V.int 2, V.int 3]) (n := 8) (by decide) rfl v2
      obtain ⟨kd, rfl⟩ : ∃ kd : Int, x8 = .int kd := by
        simp only [List.mem_cons, List.not_mem_nil, or_false] at m8
        rcases m8 with h | h | h | h | h | h | h | h <;> exact ⟨_, h⟩
      refine ⟨(show 8 ≤ sizeLine by decide), fun t nt => ?_⟩
      have s4 := same_upd (o := .lst [.int 0, .int 1, .int 2, .int 4, .int 0, .int 1, .int 2, .int 3]) nt
      refine ⟨_, rfl, _, _, _, _, rfl, rfl, s4.seq hS3, a2, .inl ⟨_, rfl, _, _, rfl, rfl, by show (0 : Int) < 8; decide, _, _, _, _, rfl, rfl, SqL.of upd_same, h8, ?_⟩⟩
      have gB4 := gB.same s4
      obtain ⟨_, _, xs, ex, _⟩ := id gB4
      refine ⟨_, rfl, .inl ⟨rfl, _, SqL.of ex⟩, _, rfl, _, rfl, _, _, rfl, rfl, _, rfl, _, _, rfl, rfl, _, _, pl + 1 + i, 33, ?_, (s3.trans s4).seq hA, by decide, fun H5 pR row s5 nR hr eR => ?_⟩
      · show [V.ref a, V.int ((pl : Int) + 1 + (0 + (i : Int))), V.int 33] = _
        rw [show ((pl : Int) + 1 + (0 + (i : Int))) = ((pl + 1 + i : Nat) : Int) by omega]
        rfl
      have s45 := s4.trans s5
      have gB5 := gB4.same s5
      refine ⟨_, rfl, _, rfl, _, rfl, pR, pS, row, shape, g, kd, rfl, SqL.of eR, hr, s45.seq hS3, hs, g1, g4, fun b hb H6 v s6 hv => ?_⟩
      have hD5 : ∀ D ∈ [pB], soft (H5 D) = false := fun D hD => by
        rw [List.mem_singleton.mp hD]; exact gB5.hard
      obtain ⟨ys, ey, hys, gB7⟩ := (gB5.same s6).push (new_in (s3.trans s45) hD5 hv) (by rw [List.length_map]; omega)
      refine ⟨_, _, _, rfl, rfl, ey, hys, ?_⟩
      refine ⟨same_mut ((s3.trans s45).trans s6) gB.2.1, ?_, _, _, bs ++ [b], rfl, by rw [List.map_append]; exact gB7, by rw [List.length_append, lb]; rfl, ?_⟩
      · exact sql_keep hSB ((s45.trans s6).seq hS3)
      · intro c hc
        rcases List.mem_append.mp hc with hc | hc
        · exact fb c hc
        · rw [List.mem_singleton.mp hc]; exact hb
    · rintro σ H7 ⟨s7, hS7, y8, y9, bs, rfl, gB, lb, fb⟩
      have dB := gB.done
      refine ⟨(show 0 ≤ sizeLine by decide), fun pL nL => ?_⟩
      have gL8 := Gr.start (Ds := [pL]) (K := K) (Same.refl H7) nL (by simp)
      have s8 : Same H7 (upd H7 pL (.lst [])) := same_upd nL
      refine ⟨_, rfl, _, rfl, _, _, rfl, rfl, _, _, pl + 8, 18, rfl, (s7.trans s8).seq hA, by decide, fun H9 pR row s9 nR hr eR => ?_⟩
      have hR9 : SqL K H9 pR (row.map V.int) := SqL.of eR
      have gL9 := gL8.same s9
      have nRL : pR ≠ pL := fun z => by rw [z, upd_same] at nR; cases nR
      refine ⟨fun σ Hm => Same H7 Hm ∧ ∃ (y : Option V) (ls : List (Nat × Nat × Bool)), σ = [some (.ref a), some (.int (pl : Int)), some (.int (most : Int)), some (.int (linked : Int)), some (.ref pS), some (.int (g : Int)), some (.int (cnt : Int)), some (.ref pB), y8, y9, some (.ref pL), some (.ref pR), y] ∧ Gr K H7 Hm [pL] pL (ls.map lD) ∧ ls.length ≤ linked ∧ ∀ l ∈ ls, l.1 < cnt ∧ l.2.1 < cnt, ?_, ?_⟩
      · refine ⟨_, rfl, _, _, rfl, rfl, _, rfl, ite2 (fun e => ?_) (fun e => ⟨s8.trans s9, _, [], rfl, gL9, Nat.zero_le _, fun l hl => by cases hl⟩)⟩
        have cp : 0 < (cnt : Int) := of_decide_eq_true e
        have hk0 : 0 ≤ v3 % ((linked : Int) + 1) := Int.emod_nonneg _ (by omega)
        have hk1 := Int.emod_lt_of_pos v3 (show (0 : Int) < (linked : Int) + 1 by omega)
        obtain ⟨kn, ek⟩ := Int.eq_ofNat_of_zero_le hk0
        refine ⟨_, rfl, _, _, _, _, rfl, rfl, (s8.trans s9).seq hS7, a3, .inl ⟨_, rfl, _, rfl, _, _, rfl, rfl, _, _, rfl, rfl, (show (0 : Int) < (linked : Int) + 1 by omega), ?_⟩⟩
        rw [show (fun i j : Int => V.int (i % j)) v3 ((linked : Int) + 1) = V.int (kn : Int) from congrArg V.int ek]
        refine ⟨_, rfl, by omega, by omega, ?_⟩
        refine for_range (lo := 0) (n := kn) (fun i σ Hm => Same H7 Hm ∧ SqL K Hm pR (row.map V.int) ∧ ∃ (y : Option V) (ls : List (Nat × Nat × Bool)), σ = [some (.ref a), some (.int (pl : Int)), some (.int (most : Int)), some (.int (linked : Int)), some (.ref pS), some (.int (g : Int)), some (.int (cnt : Int)), some (.ref pB), y8, y9, some (.ref pL), some (.ref pR), y] ∧ Gr K H7 Hm [pL] pL (ls.map lD) ∧ ls.length = i ∧ ∀ l ∈ ls, l.1 < cnt ∧ l.2.1 < cnt) ⟨s8.trans s9, hR9, _, [], rfl, gL9, rfl, fun l hl => by cases hl⟩ ?_ ?_
        · rintro i σ Hm hi ⟨sm, hRm, y, ls, rfl, gL, ll, fl⟩
          have atc : ∀ c : Nat, c < 3 → ∃ v : Int, atI (row.map V.int) (3 * (0 + (i : Int)) + (c : Int)) = some (.int v) := fun c hc => by
            obtain ⟨v, h1, h2⟩ := hr.at (3 * i + c) (by omega)
            refine ⟨v, ?_⟩
            rw [← h1]
            congr 1
            omega
          obtain ⟨w0, f0⟩ := atc 0 (by decide)
          rw [show (3 * (0 + (i : Int)) + ((0 : Nat) : Int)) = 3 * (0 + (i : Int)) by omega] at f0
          obtain ⟨w1, f1⟩ := atc 1 (by decide)
          obtain ⟨w2, f2⟩ := atc 2 (by decide)
          obtain ⟨x0, ex0⟩ := Int.eq_ofNat_of_zero_le (Int.emod_nonneg w0 (show (cnt : Int) ≠ 0 by omega))
          obtain ⟨x1, ex1⟩ := Int.eq_ofNat_of_zero_le (Int.emod_nonneg w1 (show (cnt : Int) ≠ 0 by omega))
          have y0 := Int.emod_lt_of_pos w0 cp
          have y1 := Int.emod_lt_of_pos w1 cp
          obtain ⟨_, _, xs, ex, _⟩ := id gL
          refine ⟨_, rfl, .inl ⟨rfl, _, SqL.of ex⟩, ?_⟩
          refine ⟨_, rfl, _, rfl, _, _, rfl, rfl, mulG_l (by decide), _, _, _, _, rfl, rfl, hRm, f0, .inl ⟨_, rfl, _, rfl, _, _, rfl, rfl, cp, ?_⟩⟩
          refine ⟨_, rfl, _, rfl, _, _, rfl, rfl, mulG_l (by decide), _, _, rfl, rfl, _, _, _, _, rfl, rfl, hRm, f1, .inl ⟨_, rfl, _, rfl, _, _, rfl, rfl, cp, ?_⟩⟩
          refine ⟨_, rfl, _, rfl, _, _, rfl, rfl, mulG_l (by decide), _, _, rfl, rfl, _, _, _, _, rfl, rfl, hRm, f2, .inl ⟨_, rfl, _, _, rfl, rfl, by show (0 : Int) < 2; decide, rfl, (show 3 ≤ sizeLine by decide), fun t nt => ?_⟩⟩
          have hDm : ∀ D ∈ [pL], soft (Hm D) = false := fun D hD => by
            rw [List.mem_singleton.mp hD]; exact gL.hard
          have st : Same Hm (upd Hm t (.tup [(fun i j : Int => V.int (i % j)) w0 (cnt : Int), (fun i j : Int => V.int (i % j)) w1 (cnt : Int), V.bl (decide ((fun i j : Int => V.int (i % j)) w2 2 = V.int 1))])) := same_upd nt
          obtain ⟨ys, ey, hys, gL2⟩ := (gL.same st).push (d := lD (x0, x1, decide ((fun i j : Int => V.int (i % j)) w2 2 = V.int 1))) (grow_tup sm hDm nt (.cons (by rw [show (fun i j : Int => V.int (i % j)) w0 (cnt : Int) = V.int (x0 : Int) from congrArg V.int ex0]; exact .int _) (.cons (by rw [show (fun i j : Int => V.int (i % j)) w1 (cnt : Int) = V.int (x1 : Int) from congrArg V.int ex1]; exact .int _) (.cons (.bl _) .nil)))) (by rw [List.length_map]; omega)
          refine ⟨_, _, _, rfl, rfl, ey, hys, ?_⟩
          refine ⟨same_mut (sm.trans st) nL, sql_keep nRL (st.seq hRm), _, ls ++ [(x0, x1, decide ((fun i j : Int => V.int (i % j)) w2 2 = V.int 1))], rfl, by rw [List.map_append]; exact gL2, by rw [List.length_append, ll]; rfl, ?_⟩
          intro l hl2
          rcases List.mem_append.mp hl2 with hl2 | hl2
          · exact fl l hl2
          · rw [List.mem_singleton.mp hl2]
            exact ⟨by show x0 < cnt; omega, by show x1 < cnt; omega⟩
        · rintro σ Hm ⟨sm, hRm, y, ls, rfl, gL, ll, fl⟩
          exact ⟨sm, _, ls, rfl, gL, by omega, fl⟩
      · rintro σ Hm ⟨sm, y, ls, rfl, gL, ll, fl⟩
        have dL := gL.done
        refine ⟨_, rfl, _, rfl, _, rfl, (show 3 ≤ sizeLine by decide), fun t nt => ?_⟩
        have sAll := s7.trans sm
        refine Z g bs ls ⟨g1, g4, by omega, fb, ll, by rw [lb]; exact fl⟩ _ _ (sAll.trans (same_upd nt)) (new_tup sAll nt (.cons (.int _) (.cons (dp_same (fresh_mono sm) dB) (.cons (dp_same (fresh_old s7) dL) .nil))))
theorem ok_Data_init {f : Addr} {fd : FuncData} {C_Data : Addr} (F : Fun K "__init__" "Data.__init__" s_Data_init f fd) (m_list : mg "list" = none) (T_Data : Cls K C_Data) (na_Data_goods : NoAttr K C_Data "goods") (na_Data_buys : NoAttr K C_Data "buys") (na_Data_links : NoAttr K C_Data "links") : FnOk P w K mg base CX0 1 f fd ["self", "goods", "buys", "links"] (sp_Data_init K C_Data) := by
  refine F.ok sc_Data_init (fun vs H Q E h => ?_) (fun cdv A outer s H vs Q E hr h => ?_)
  · obtain ⟨H₀, p, dx, g, bs, ls, vb, vl, rfl, _⟩ := h
    rfl
  · refine ⟨_, (pss_cons (ps_fld (pv 0) (pv 1) rfl)
      (pss_cons (ps_fld (pv 0) (pe_lc (own := [("prices", 4), ("amounts", 5)]) (g := gTup K 2 (gCons (gName 4) (gCons (gName 5) gNil))) (tt := tYes) rfl sc_Data_init.nd (pi_list (pv 2)) (blkOk_by (N := N_Data_init) (sc := defScope s_Data_init) (by decide +kernel)) (fun _ _ _ _ _ => (pg_tup rfl (pgs_cons (pg_name (i := 4) sc_Data_init.nd rfl (Or.inl rfl)) (pgs_cons (pg_name (i := 5) sc_Data_init.nd rfl (Or.inl rfl)) pgs_nil)))) (fun _ _ _ _ _ => pts_nil) (fun _ _ _ _ _ => (pe_tup (pa_cons (pe_callTy (call_list_ofK (K := K) rfl) (by rfl) m_list (by decide +kernel) (pa_cons (pv 4) pa_nil)) (pa_cons (pe_callTy (call_list_ofK (K := K) rfl) (by rfl) m_list (by decide +kernel) (pa_cons (pv 5) pa_nil)) pa_nil))))) rfl)
      (pss_one (ps_fld (pv 0) (pe_callTy call_list_of (by rfl) m_list (by decide +kernel) (pa_cons (pv 3) pa_nil)) rfl)))), ?_⟩
    obtain ⟨H₀, p, dx, g, bs, ls, vb, vl, rfl, s0, np, hp, hB, hL, nb, nl, lb, Z⟩ := h
    obtain ⟨a, xs, rfl, sA, hx⟩ := dp_lst hB
    obtain ⟨b, ys, rfl, sB, hy⟩ := dp_lst hL
    have lx : xs.length = bs.length := by rw [dpa_len hx, List.length_map]
    refine ⟨_, rfl, _, rfl, p, C_Data, dx, [], rfl, hp, T_Data, na_Data_goods, (by show 0 < 1000; decide), ?_⟩
    have s1 : Same H₀ (upd H p (.ins C_Data dx (putF "goods" (.int (g : Int)) []))) := same_mut s0 np
    have hp1 : upd H p (.ins C_Data dx (putF "goods" (.int (g : Int)) [])) p = some (.ins C_Data dx (putF "goods" (.int (g : Int)) [])) := upd_same
    generalize upd H p (.ins C_Data dx (putF "goods" (.int (g : Int)) [])) = H1 at s1 hp1 ⊢
    refine ⟨_, rfl, a, rfl, ⟨_, s1.seq sA⟩, fun D nD => ?_⟩
    have nDp : D ≠ p := fun z => by rw [z, hp1] at nD; cases nD
    refine lc_list (xs := xs) (fun i H2 => Same H1 H2 ∧ Gr K H₀ H2 [D, p] D ((bs.take i).map bD)) ⟨same_upd nD, by rw [List.take_zero]; exact Gr.start s1 nD (by simp)⟩ (fun i H2 _ h => (s1.trans h.1).seq sA) ?_ ?_
    · rintro i x H2 hi ⟨s2, gD⟩
      obtain ⟨d, hd, hdx⟩ := dpa_got hx hi
      rw [List.getElem?_map] at hd
      cases eb : bs[i]? with
      | none => rw [eb] at hd; cases hd
      | some c =>
        rw [eb] at hd
        cases Option.some.inj hd
        obtain ⟨t, p', q, rfl, ht, hpp, hqq⟩ := buy_of (dp_same (s1.trans s2) hdx)
        obtain ⟨as, hpl, hpf⟩ := hpp
        obtain ⟨cs, hql, hqf⟩ := hqq
        refine ⟨t, _, rfl, ht, rfl, _, _, rfl, _, _, rfl, rfl, rfl, ?_⟩
        refine ⟨_, rfl, p', _, rfl, .inl hpl, fun l1 n1 => ?_⟩
        have s3 : Same H2 (upd H2 l1 (.lst (as.map V.ref))) := same_upd n1
        have d1 := new_fs (Same.refl H2) n1 hpf
        refine ⟨_, rfl, q, _, rfl, .inl (s3.seq hql), fun l2 n2 => ?_⟩
        have s4 : Same (upd H2 l1 (.lst (as.map V.ref))) (upd (upd H2 l1 (.lst (as.map V.ref))) l2 (.lst (cs.map V.ref))) := same_upd n2
        have d2 := new_fs s3 n2 (hqf.same s3)
        refine ⟨by show 2 ≤ sizeLine; decide, fun t2 nt2 => ?_⟩
        have s5 := (s3.trans s4).trans (same_upd (o := .tup [.ref l1, .ref l2]) nt2)
        have d3 := new_tup (s3.trans s4) nt2 (.cons (dp_same (fresh_mono s4) d1) (.cons d2 .nil))
        obtain ⟨acc, e1, e2, g2⟩ := (gD.same s5).push (new_in (s1.trans s2) (fun b hb => by
          rcases List.mem_cons.mp hb with rfl | hb
          · exact gD.hard
          · rw [List.mem_singleton.mp hb, s2 _ _ hp1]; rfl) d3) (by rw [List.length_map, List.length_take]; omega)
        refine ⟨acc, e1, e2, same_mut (s2.trans s5) nD, ?_⟩
        rw [List.take_add_one, eb, List.map_append]
        exact g2
    · rintro H2 ⟨s2, gD⟩
      rw [lx, List.take_of_length_le (Nat.le_refl _)] at gD
      have dB := gD.done2 (by simpa using nDp)
      have hp2 := s2 _ _ hp1
      have s12 := s1.trans s2
      refine ⟨_, rfl, p, C_Data, dx, _, rfl, hp2, T_Data, na_Data_buys, ?_, ?_⟩
      · exact Nat.lt_of_le_of_lt (putF_len _) (show 1 < 1000 by decide)
      rw [← but_upd (D := p) (o := .ins C_Data dx (putF "buys" (.ref D) (putF "goods" (.int (g : Int)) []))) (by simp)] at dB
      have s3 : Same H₀ (upd H2 p (.ins C_Data dx (putF "buys" (.ref D) (putF "goods" (.int (g : Int)) [])))) := same_mut s12 np
      have hp3 : upd H2 p (.ins C_Data dx (putF "buys" (.ref D) (putF "goods" (.int (g : Int)) []))) p = some (.ins C_Data dx (putF "buys" (.ref D) (putF "goods" (.int (g : Int)) []))) := upd_same
      generalize upd H2 p (.ins C_Data dx (putF "buys" (.ref D) (putF "goods" (.int (g : Int)) []))) = H3 at s3 hp3 dB ⊢
      refine ⟨_, rfl, b, _, rfl, .inl (s3.seq sB), fun l nl2 => ?_⟩
      have s4 : Same H3 (upd H3 l (.lst ys)) := same_upd nl2
      have nlp : l ≠ p := fun z => by rw [z, hp3] at nl2; cases nl2
      have dL : Dp K (but (fresh H₀ (upd H3 l (.lst ys))) [p]) (.ref l) (lsD ls) := by
        refine .lst (SqL.of ?_) (grow_ls (s3.trans s4) (fun b hb => by rw [List.mem_singleton.mp hb, s4 _ _ hp3]; rfl) (dpa_same (s3.trans s4) hy))
        rw [but_at (by simpa using nlp), fresh_at (s3.free nl2)]
        exact upd_same
      have dB4 := dp_same (but_mono (fresh_mono s4)) dB
      have hp4 := s4 _ _ hp3
      have s34 := s3.trans s4
      generalize upd H3 l (.lst ys) = H4 at s34 hp4 dL dB4 ⊢
      refine ⟨_, rfl, p, C_Data, dx, _, rfl, hp4, T_Data, na_Data_links, ?_, ?_⟩
      · exact Nat.lt_of_le_of_lt (putF_len _) (Nat.lt_of_le_of_lt (Nat.succ_le_succ (putF_len _)) (show 2 < 1000 by decide))
      have lk : ∀ n : Str, (putF "links" (V.ref l) (putF "buys" (V.ref D) (putF "goods" (V.int (g : Int)) []))).lookup n = if n = "links" then some (V.ref l) else if n = "buys" then some (V.ref D) else if n = "goods" then some (V.int (g : Int)) else none := fun n => by
        rw [lookup_putF, lookup_putF, lookup_putF]
        rfl
      refine Z _ _ (same_mut s34 np) upd_same ⟨⟨_, _, _, upd_same, T_Data, na_Data_goods, ?_⟩, .ref D, .ref l, ⟨_, _, _, upd_same, T_Data, na_Data_buys, ?_⟩, ?_, ⟨_, _, _, upd_same, T_Data, na_Data_links, ?_⟩, ?_⟩
      · rw [lk, if_neg (by decide +kernel), if_neg (by decide +kernel), if_pos rfl]
      · rw [lk, if_neg (by decide +kernel), if_pos rfl]
      · refine dp_same (but_sub (Ds := [p])) ?_
        rw [but_upd (Ds := [p]) (by simp)]
        exact dB4
      · rw [lk, if_pos rfl]
      · refine dp_same (but_sub (Ds := [p])) ?_
        rw [but_upd (Ds := [p]) (by simp)]
        exact dL
theorem ok__law_made {f : Addr} {fd : FuncData} {C_Data : Addr} (F : Fun K "_law_made" "_law_made" s__law_made f fd) (m_list : mg "list" = none) (M_Data : DMk P w K mg base CX0 1 "Data" C_Data (sp_Data_init K C_Data)) : FnOk P w K mg base CX0 3 f fd ["_law_goods", "_law_buys", "_law_links"] (sp__law_made K) := by
  refine F.ok sc__law_made (fun vs H Q E h => ?_) (fun cdv A outer s H vs Q E hr h => ?_)
  · obtain ⟨g, bs, ls, vb, vl, rfl, _⟩ := h
    rfl
  · refine ⟨_, (pss_one (ps_ret (pe_dmake M_Data hr (by decide) (by rfl) pass0 (pa_cons (pv 0) (pa_cons (pe_lc (own := [("_law_one", 3)]) (g := gName 3) (tt := tYes) rfl sc__law_made.nd (pi_list (pv 1)) (blkOk_by (N := N__law_made) (sc := defScope s__law_made) (by decide +kernel)) (fun _ _ _ _ _ => (pg_name (i := 3) sc__law_made.nd rfl (Or.inl rfl))) (fun _ _ _ _ _ => pts_nil) (fun _ _ _ _ _ => (pe_tup (pa_cons (pe_callTy (call_list_ofK (K := K) rfl) (by rfl) m_list (by decide +kernel) (pa_cons (pe_ix (ix_tupK (K := K) rfl) (pv 3) pe_int (fun _ _ => rfl)) pa_nil)) (pa_cons (pe_callTy (call_list_ofK (K := K) rfl) (by rfl) m_list (by decide +kernel) (pa_cons (pe_ix (ix_tupK (K := K) rfl) (pv 3) pe_int (fun _ _ => rfl)) pa_nil)) pa_nil))))) (pa_cons (pe_callTy call_list_of (by rfl) m_list (by decide +kernel) (pa_cons (pv 2) pa_nil)) pa_nil)))))), ?_⟩
    obtain ⟨g, bs, ls, vb, vl, rfl, hB, hL, nb, nl, lb, Z⟩ := h
    obtain ⟨a, xs, rfl, sA, hx⟩ := dp_lst hB
    obtain ⟨b, ys, rfl, sB, hy⟩ := dp_lst hL
    have lx : xs.length = bs.length := by rw [dpa_len hx, List.length_map]
    refine ⟨_, rfl, _, rfl, a, rfl, ⟨_, sA⟩, fun D nD => ?_⟩
    refine lc_list (xs := xs) (fun i H2 => Same H H2 ∧ Gr K H H2 [D] D ((bs.take i).map bD)) ⟨same_upd nD, by rw [List.take_zero]; exact Gr.start (Same.refl _) nD (by simp)⟩ (fun i H2 _ h => h.1.seq sA) ?_ ?_
    · rintro i x H2 hi ⟨s2, gD⟩
      obtain ⟨d, hd, hdx⟩ := dpa_got hx hi
      rw [List.getElem?_map] at hd
      cases eb : bs[i]? with
      | none => rw [eb] at hd; cases hd
      | some c =>
        rw [eb] at hd
        cases Option.some.inj hd
        obtain ⟨t, p, q, rfl, ht, hp, hq⟩ := buy_of (dp_same s2 hdx)
        refine ⟨rfl, ?_⟩
        obtain ⟨as, hpl, hpf⟩ := hp
        obtain ⟨cs, hql, hqf⟩ := hq
        refine ⟨_, rfl, _, _, _, _, rfl, rfl, ht, rfl, p, _, rfl, .inl hpl, fun l1 n1 => ?_⟩
        have s3 : Same H2 (upd H2 l1 (.lst (as.map V.ref))) := same_upd n1
        have d1 := new_fs (Same.refl H2) n1 hpf
        have ht3 := sqt_same s3 ht
        refine ⟨_, rfl, _, _, _, _, rfl, rfl, ht3, rfl, q, _, rfl, .inl (s3.seq hql), fun l2 n2 => ?_⟩
        have s4 : Same (upd H2 l1 (.lst (as.map V.ref))) (upd (upd H2 l1 (.lst (as.map V.ref))) l2 (.lst (cs.map V.ref))) := same_upd n2
        have d2 := new_fs s3 n2 (hqf.same s3)
        refine ⟨by show 2 ≤ sizeLine; decide, fun t2 nt2 => ?_⟩
        have s5 := (s3.trans s4).trans (same_upd (o := .tup [.ref l1, .ref l2]) nt2)
        have d3 := new_tup (s3.trans s4) nt2 (.cons (dp_same (fresh_mono s4) d1) (.cons d2 .nil))
        obtain ⟨acc, e1, e2, g2⟩ := (gD.same s5).push (new_in s2 (fun b hb => by rw [List.mem_singleton.mp hb]; exact gD.hard) d3) (by rw [List.length_map, List.length_take]; omega)
        refine ⟨acc, e1, e2, same_mut (s2.trans s5) nD, ?_⟩
        rw [List.take_add_one, eb, List.map_append]
        exact g2
    · rintro H2 ⟨s2, gD⟩
      rw [lx, List.take_of_length_le (Nat.le_refl _)] at gD
      refine ⟨_, rfl, b, _, rfl, .inl (s2.seq sB), fun l nl2 => ?_⟩
      have s3 : Same H2 (upd H2 l (.lst ys)) := same_upd nl2
      have dB := dp_same ((fresh_mono s3).trans fresh_sub) gD.done
      have dL : Dp K (upd H2 l (.lst ys)) (.ref l) (lsD ls) := .lst (SqL.of upd_same) (dpa_same (s2.trans s3) hy)
      generalize upd H2 l (.lst ys) = H3 at s3 dB dL
      refine fun x dx nx ndx hne => ⟨H3, x, dx, g, bs, ls, .ref D, .ref l, rfl, fun b o e => ?_, nx, upd_same, dB, dL, nb, nl, lb, fun H' _ s' _ hN => ⟨rfl, Z H' x ((s2.trans s3).trans s') ((s2.trans s3).free nx) (hN.old (s2.trans s3))⟩⟩
      rw [upd_ne (ne_of_none e nx), upd_ne (ne_of_none e ndx)]
      exact e
theorem ok__law_dot {f : Addr} {fd : FuncData} (F : Fun K "_law_dot" "_law_dot" s__law_dot f fd) (m_range : mg "range" = none) (m_len : mg "len" = none) : FnOk P w K mg base CX0 1 f fd ["_law_a", "_law_b"] (sp__law_dot K) := by
  refine F.ok sc__law_dot (fun vs H Q E h => ?_) (fun cdv A outer s H vs Q E hr h => ?_)
  · obtain ⟨a, b, rs, ss, B, rfl, _⟩ := h
    rfl
  · refine ⟨_, (pss_cons (ps_set (i := 2) sc__law_dot.nd rfl (Or.inl rfl) (pe_tup (pa_cons pe_int (pa_cons pe_int pa_nil))))
      (pss_cons (ps_for PassesOwn.never rfl (pi_range1 rfl m_range (pa_cons (pe_callB call_len_seq (by rfl) m_len (by decide +kernel) (pa_cons (pv 0) pa_nil)) pa_nil)) (pg_name (i := 3) sc__law_dot.nd rfl (Or.inl rfl))
      (pss_cons (ps_set (i := 4) sc__law_dot.nd rfl (Or.inl rfl) (pe_op op_mulG (pe_ix ix_tup (pe_ix ix_list (pv 0) (pv 3) (fun _ _ => rfl)) pe_int (fun _ _ => rfl)) (pe_ix ix_tup (pe_ix ix_list (pv 1) (pv 3) (fun _ _ => rfl)) pe_int (fun _ _ => rfl))))
      (pss_one (ps_set (i := 2) sc__law_dot.nd rfl (Or.inl rfl) (pe_tup (pa_cons (pe_op op_add (pe_op op_mulG (pe_ix ix_tup (pv 2) pe_int (fun _ _ => rfl)) (pv 4)) (pe_op op_mulG (pe_op op_mulG (pe_ix ix_tup (pe_ix ix_list (pv 0) (pv 3) (fun _ _ => rfl)) pe_int (fun _ _ => rfl)) (pe_ix ix_tup (pe_ix ix_list (pv 1) (pv 3) (fun _ _ => rfl)) pe_int (fun _ _ => rfl))) (pe_ix ix_tup (pv 2) pe_int (fun _ _ => rfl)))) (pa_cons (pe_op op_mulG (pe_ix ix_tup (pv 2) pe_int (fun _ _ => rfl)) (pv 4)) pa_nil)))))))
      (pss_one (ps_ret (pv 2))))), ?_⟩
    obtain ⟨a, b, rs, ss, B, rfl, hA, hB, hl, zr, zs, hz, hz2, Z⟩ := h
    obtain ⟨as, sA, fA⟩ := hA
    obtain ⟨bs, sB, fB⟩ := hB
    refine ⟨by show 2 ≤ sizeLine; decide, fun t0 n0 => ?_⟩
    have s0 : Same H (upd H t0 (.tup [.int 0, .int 1])) := same_upd n0
    refine ⟨_, rfl, a, _, rfl, .inl (s0.seq sA), ?_⟩
    rw [List.length_map, fA.1]
    refine ⟨_, rfl, by omega, by omega, ?_⟩
    refine for_range (lo := 0) (n := rs.length) (fun i σ H2 => Same H H2 ∧ ∃ (t : Addr) (y3 y4 : Option V) (p q : Int), H t = none ∧ σ = [some (.ref a), some (.ref b), some (.ref t), y3, y4] ∧ SqT K H2 t [.int p, .int q] ∧ 0 < q ∧ Rat.divInt p q = dotR (rs.take i) (ss.take i) ∧ p.natAbs < 2 ^ (i * (2 * B + 1) + 1) ∧ q.natAbs < 2 ^ (i * (2 * B + 1) + 1)) ⟨s0, t0, _, _, 0, 1, n0, rfl, SqT.of upd_same, by decide, ?_, Nat.pow_pos (by decide), Nat.one_lt_pow (by omega) (by decide)⟩ ?_ ?_
    · rw [List.take_zero, dotR_nil]
      exact Rat.zero_divInt _
    · rintro i σ H2 hi ⟨s2, t, y3, y4, p, q, nt, rfl, ht, q0, e, zp, zq⟩
      obtain ⟨x, r, _, hx, er, hr, _⟩ : ∃ a r, as[i]? = some a ∧ (as.map V.ref)[i]? = some (.ref a) ∧ rs[i]? = some r ∧ IsF K H2 a r ∧ True := by
        obtain ⟨a, r, h1, h2, h3, h4⟩ := (fA.same s2).get hi
        exact ⟨a, r, h1, h2, h3, h4, trivial⟩
      obtain ⟨y, s, _, hy, es, hs2, _⟩ : ∃ a r, bs[i]? = some a ∧ (bs.map V.ref)[i]? = some (.ref a) ∧ ss[i]? = some r ∧ IsF K H2 a r ∧ True := by
        obtain ⟨a, r, h1, h2, h3, h4⟩ := (fB.same s2).get (i := i) (by omega)
        exact ⟨a, r, h1, h2, h3, h4, trivial⟩
      have hx' : atI (as.map V.ref) (0 + (i : Int)) = some (.ref x) := by
        rw [Int.zero_add]; exact atI_nat hx
      have hy' : atI (bs.map V.ref) (0 + (i : Int)) = some (.ref y) := by
        rw [Int.zero_add]; exact atI_nat hy
      have sr := zr r (List.mem_of_getElem? er)
      have ss' := zs s (List.mem_of_getElem? es)
      have sA2 := s2.seq sA
      have sB2 := s2.seq sB
      have hmul : (i + 1) * (2 * B + 1) ≤ rs.length * (2 * B + 1) := Nat.mul_le_mul_right _ hi
      have hi0 : (i + 1) * (2 * B + 1) = i * (2 * B + 1) + (2 * B + 1) := Nat.succ_mul _ _
      have zd := natAbs_mul_lt sr.den ss'.den
      have zn := natAbs_mul_lt sr.1 ss'.1
      refine ⟨_, rfl, _, rfl, _, _, _, _, rfl, rfl, sA2, hx', _, _, _, _, rfl, rfl, hr, rfl, _, rfl, _, rfl, _, _, _, _, rfl, rfl, sB2, hy', _, _, _, _, rfl, rfl, hs2, rfl, _, _, rfl, rfl, mulG_b sr.den ss'.den (by omega), ?_⟩
      refine ⟨_, rfl, _, _, _, _, rfl, rfl, ht, rfl, _, rfl, _, _, rfl, rfl, mulG_b zp zd (by omega), _, rfl, _, rfl, _, _, _, _, rfl, rfl, sA2, hx', _, _, _, _, rfl, rfl, hr, rfl, _, rfl, _, rfl, _, _, _, _, rfl, rfl, sB2, hy', _, _, _, _, rfl, rfl, hs2, rfl, _, _, rfl, rfl, mulG_b sr.1 ss'.1 (by omega), _, rfl, _, _, _, _, rfl, rfl, ht, rfl, _, _, rfl, rfl, mulG_b zn zq (by omega), _, _, rfl, rfl, _, rfl, _, _, _, _, rfl, rfl, ht, rfl, _, rfl, _, _, rfl, rfl, mulG_b zq zd (by omega), by show 2 ≤ sizeLine; decide, fun u nu => ?_⟩
      have z1 := natAbs_mul_lt zp zd
      have z2 := natAbs_mul_lt zn zq
      have z3 := natAbs_mul_lt zq zd
      have z4 := natAbs_add_lt (Nat.lt_of_lt_of_le z1 (Nat.pow_le_pow_right (by decide) (show i * (2 * B + 1) + 1 + (B + B) ≤ i * (2 * B + 1) + 1 + (B + B) from Nat.le_refl _))) (Nat.lt_of_lt_of_le z2 (Nat.pow_le_pow_right (by decide) (show B + B + (i * (2 * B + 1) + 1) ≤ i * (2 * B + 1) + 1 + (B + B) by omega)))
      refine ⟨s2.trans (same_upd nu), u, _, _, _, _, s2.free nu, rfl, SqT.of upd_same, Int.mul_pos q0 (den_mul_pos r s), ?_, Nat.lt_of_lt_of_le z4 (Nat.pow_le_pow_right (by decide) (by omega)), Nat.lt_of_lt_of_le z3 (Nat.pow_le_pow_right (by decide) (by omega))⟩
      rw [dotR_take rs ss i r s er es]
      exact dot_step q0 e
    · rintro σ H2 ⟨s2, t, y3, y4, p, q, nt, rfl, ht, q0, e, zp, zq⟩
      rw [List.take_of_length_le (Nat.le_refl _), List.take_of_length_le (by omega)] at e
      exact ⟨_, rfl, Z p q _ t q0 e zp zq s2 nt ht⟩
theorem ok__law_gap {f : Addr} {fd : FuncData} (F : Fun K "_law_gap" "_law_gap" s__law_gap f fd) (D__law_dot : Dn P w K mg base CX0 1 "_law_dot" (sp__law_dot K)) : FnOk P w K mg base CX0 2 f fd ["_law_buys", "_law_i", "_law_basket"] (sp__law_gap K) := by
  refine F.ok sc__law_gap (fun vs H Q E h => ?_) (fun cdv A outer s H vs Q E hr h => ?_)
  · obtain ⟨vb, bs, i, g, b, c, ss, rfl, _⟩ := h
    rfl
  · refine ⟨_, (pss_cons (ps_set (i := 3) sc__law_gap.nd rfl (Or.inl rfl) (pe_d D__law_dot hr (by decide) (by rfl) pass0 (pa_cons (pe_ix ix_tup (pe_ix ix_list (pv 0) (pv 1) (fun _ _ => rfl)) pe_int (fun _ _ => rfl)) (pa_cons (pv 2) pa_nil))))
      (pss_cons (ps_set (i := 4) sc__law_gap.nd rfl (Or.inl rfl) (pe_d D__law_dot hr (by decide) (by rfl) pass0 (pa_cons (pe_ix ix_tup (pe_ix ix_list (pv 0) (pv 1) (fun _ _ => rfl)) pe_int (fun _ _ => rfl)) (pa_cons (pe_ix ix_tup (pe_ix ix_list (pv 0) (pv 1) (fun _ _ => rfl)) pe_int (fun _ _ => rfl)) pa_nil))))
      (pss_one (ps_ret (pe_tup (pa_cons (pe_op op_sub (pe_op op_mulG (pe_ix ix_tup (pv 3) pe_int (fun _ _ => rfl)) (pe_ix ix_tup (pv 4) pe_int (fun _ _ => rfl))) (pe_op op_mulG (pe_ix ix_tup (pv 4) pe_int (fun _ _ => rfl)) (pe_ix ix_tup (pv 3) pe_int (fun _ _ => rfl)))) (pa_cons (pe_op op_mulG (pe_ix ix_tup (pv 3) pe_int (fun _ _ => rfl)) (pe_ix ix_tup (pv 4) pe_int (fun _ _ => rfl))) pa_nil))))))), ?_⟩
    obtain ⟨vb, bs, i, g, b, c, ss, rfl, hB, eb, ob, g4, hC, lc, zc, Z⟩ := h
    obtain ⟨a, xs, t, p, q, rfl, sA, ax, ht, hp, hq⟩ := buys_get hB eb
    have l1 := ob.l1
    have l2 := ob.l2
    have zp : ∀ r ∈ b.1, Sz 80 r := fun r hr => (ob.p r hr).2.mono (by decide)
    have za : ∀ r ∈ b.2, Sz 80 r := fun r hr => (ob.a r hr).2
    refine ⟨_, rfl, _, rfl, _, _, _, _, rfl, rfl, sA, ax, _, _, _, _, rfl, rfl, ht, rfl, _, rfl, p, c, b.1, ss, 80, rfl, hp, hC, by omega, zp, zc, by omega, by omega, fun p1 q1 H1 t1 q10 e1 zp1 zq1 s1 n1 h1 => ?_⟩
    have sA1 := s1.seq sA
    have ht1 := sqt_same s1 ht
    refine ⟨_, rfl, _, rfl, _, _, _, _, rfl, rfl, sA1, ax, _, _, _, _, rfl, rfl, ht1, rfl, _, rfl, _, rfl, _, _, _, _, rfl, rfl, sA1, ax, _, _, _, _, rfl, rfl, ht1, rfl, p, q, b.1, b.2, 80, rfl, hp.same s1, hq.same s1, by omega, zp, za, by omega, by omega, fun p2 q2 H2 t2 q20 e2 zp2 zq2 s2 n2 h2 => ?_⟩
    have h1' := sqt_same s2 h1
    have up : ∀ x : Int, x.natAbs < 2 ^ (b.1.length * (2 * 80 + 1) + 1) → x.natAbs < 2 ^ 645 := fun x hx => Nat.lt_of_lt_of_le hx (Nat.pow_le_pow_right (by decide) (by omega))
    have zp1 := up _ zp1
    have zq1 := up _ zq1
    have zp2 := up _ zp2
    have zq2 := up _ zq2
    refine ⟨_, rfl, _, _, _, _, rfl, rfl, h1', rfl, _, rfl, _, _, _, _, rfl, rfl, h2, rfl, _, _, rfl, rfl, mulG_b zp1 zq2 (by decide), _, rfl, _, _, _, _, rfl, rfl, h2, rfl, _, rfl, _, _, _, _, rfl, rfl, h1', rfl, _, _, rfl, rfl, mulG_b zp2 zq1 (by decide), _, _, rfl, rfl, _, rfl, _, _, _, _, rfl, rfl, h1', rfl, _, rfl, _, _, _, _, rfl, rfl, h2, rfl, _, _, rfl, rfl, mulG_b zq1 zq2 (by decide), by show 2 ≤ sizeLine; decide, fun u nu => ?_⟩
    have z1 := natAbs_sub_lt (natAbs_mul_lt zp1 zq2) (natAbs_mul_lt zp2 zq1)
    have z2 := natAbs_mul_lt zq1 zq2
    refine Z _ _ _ u (Int.mul_pos q10 q20) ?_ (Nat.lt_of_lt_of_le z1 (Nat.pow_le_pow_right (by decide) (by decide))) (Nat.lt_of_lt_of_le z2 (Nat.pow_le_pow_right (by decide) (by decide))) ((s1.trans s2).trans (same_upd nu)) ((s1.trans s2).free nu) (SqT.of upd_same)
    unfold gapR
    rw [← e1, ← e2, Rat.divInt_sub_divInt _ _ (Int.ne_of_gt q10) (Int.ne_of_gt q20)]
theorem ok__law_step {f : Addr} {fd : FuncData} (F : Fun K "_law_step" "_law_step" s__law_step f fd) (D__law_gap : Dn P w K mg base CX0 2 "_law_gap" (sp__law_gap K)) : FnOk P w K mg base CX0 3 f fd ["_law_buys", "_law_links", "_law_i", "_law_j"] (sp__law_step K) := by
  refine F.ok sc__law_step (fun vs H Q E h => ?_) (fun cdv A outer s H vs Q E hr h => ?_)
  · obtain ⟨vb, vl, bs, ls, i, j, g, rfl, _⟩ := h
    rfl
  · refine ⟨_, (pss_cons (ps_set (i := 4) sc__law_step.nd rfl (Or.inl rfl) pe_non)
      (C8.pss_cut (ps_if (pt_cmpR op_ne (pv 2) (pv 3) (nomark _))
      (pss_cons (ps_set (i := 5) sc__law_step.nd rfl (Or.inl rfl) (pe_ix ix_tup (pe_d D__law_gap hr (by decide) (by rfl) pass0 (pa_cons (pv 0) (pa_cons (pv 2) (pa_cons (pe_ix ix_tup (pe_ix ix_list (pv 0) (pv 3) (fun _ _ => rfl)) pe_int (fun _ _ => rfl)) pa_nil)))) pe_int (fun _ _ => rfl)))
      (pss_one (ps_if (pt_cmpR op_le (pv 5) pe_int (nomark _))
      (pss_one (ps_set (i := 4) sc__law_step.nd rfl (Or.inl rfl) (pe_cmpR op_lt (pv 5) pe_int (nomark _))))
      pss_nil)))
      pss_nil)
      (pss_cons (ps_for PassesOwn.never rfl (pi_list (pv 1)) (pg_tup rfl (pgs_cons (pg_name (i := 6) sc__law_step.nd rfl (Or.inl rfl)) (pgs_cons (pg_name (i := 7) sc__law_step.nd rfl (Or.inl rfl)) (pgs_cons (pg_name (i := 8) sc__law_step.nd rfl (Or.inl rfl)) pgs_nil))))
      (pss_one (ps_if (PW.pt (pw_and (pt_cmpR op_eq (pv 6) (pv 2) (nomark _)) (pw_and1 (pt_cmpR op_eq (pv 7) (pv 3) (nomark _)))))
      (pss_one (ps_set (i := 4) sc__law_step.nd rfl (Or.inl rfl) (pe_or (pv 8) (pe_one (pe_cmpR op_isBN (pv 4) pe_bl (nomark _))))))
      pss_nil)))
      (pss_one (ps_ret (pv 4)))))), ?_⟩
    obtain ⟨vb, vl, bs, ls, i, j, g, rfl, hB, hL, hi, hj, g4, ok, Z⟩ := h
    have ei : bs[i]? = some bs[i] := List.getElem?_eq_getElem hi
    have ej : bs[j]? = some bs[j] := List.getElem?_eq_getElem hj
    refine ⟨fun σ H1 => Same H H1 ∧ ∃ y : Option V, σ = [some vb, some vl, some (.int (i : Int)), some (.int (j : Int)), some (opV (baseR bs i j)), y, none, none, none], ?_, ?_⟩
    · refine ⟨_, rfl, _, rfl, rfl, _, rfl, ite2 (fun e => ?_) (fun e => ?_)⟩
      · have hne : i ≠ j := fun z => by
          rw [z] at e
          exact absurd e (by simp)
        obtain ⟨a, xs, t, p, q, rfl, sA, ax, ht, hp, hq⟩ := buys_get hB ej
        have oj := ok _ (List.getElem_mem hj)
        refine ⟨_, rfl, _, rfl, _, rfl, _, rfl, _, _, _, _, rfl, rfl, sA, ax, _, _, _, _, rfl, rfl, ht, rfl, _, bs, i, g, bs[i], q, bs[j].2, rfl, hB, ei, ok _ (List.getElem_mem hi), g4, hq, oj.l2, (fun s hs => (oj.a s hs).2), fun P1 Q1 H1 t1 q0 e1 z1 z2 s1 n1 h1 => ?_⟩
        have hb : baseR bs i j = gapO (gapR bs[i] bs[j].2) := by
          unfold baseR
          rw [if_neg hne, ei, ej]
        obtain ⟨k1, k2⟩ := rP_lt q0 e1
        refine ⟨_, _, _, _, rfl, rfl, h1, rfl, _, rfl, _, _, rfl, rfl, _, rfl, ite2 (fun e2 => ?_) (fun e2 => ?_)⟩
        · refine ⟨_, rfl, _, _, rfl, rfl, s1, some (.int P1), ?_⟩
          have e3 : gapR bs[i] bs[j].2 ≤ 0 := k2.mp (of_decide_eq_true e2)
          rw [hb, gapO, if_pos e3, show decide (gapR bs[i] bs[j].2 < 0) = decide (P1 < 0) from decide_eq_decide.mpr k1.symm]
          rfl
        · refine ⟨s1, some (.int P1), ?_⟩
          have e3 : ¬ gapR bs[i] bs[j].2 ≤ 0 := fun z => e2 (decide_eq_true (k2.mpr z))
          rw [hb, gapO, if_neg e3]
          rfl
      · refine ⟨Same.refl _, none, ?_⟩
        have he : i = j := by
          by_cases z : i = j
          · exact z
          · refine absurd ?_ e
            rw [decide_eq_false (fun y => z (by have := V.int.inj y; omega))]
            rfl
        unfold baseR
        rw [if_pos he]
        rfl
    rintro σ H1 ⟨s1, y, rfl⟩
    obtain ⟨a, xs, rfl, sL, hx⟩ := dp_lst (dp_same s1 hL)
    refine ⟨_, rfl, a, rfl, ⟨_, sL⟩, ?_⟩
    refine for_list (K := K) (a := a) (xs := xs) (fun k σ H2 => Same H1 H2 ∧ ∃ y5 y6 y7 y8 : Option V, σ = [some vb, some (.ref a), some (.int (i : Int)), some (.int (j : Int)), some (opV ((ls.take k).foldl (linkR i j) (baseR bs i j))), y5, y6, y7, y8]) ⟨Same.refl _, _, _, _, _, rfl⟩ (fun k σ H2 _ h => h.1.seq sL) ?_ ?_
    · rintro k x σ H2 hk ⟨s2, y5, y6, y7, y8, rfl⟩
      obtain ⟨d, hd, hdx⟩ := dpa_got hx hk
      rw [List.getElem?_map] at hd
      cases el : ls[k]? with
      | none => rw [el] at hd; cases hd
      | some l =>
        rw [el] at hd
        cases Option.some.inj hd
        obtain ⟨t, zs, rfl, ht, hz⟩ := dp_tup (dp_same s2 hdx)
        obtain ⟨z1, z2, z3, rfl, h1, h2, h3⟩ := dpa_three hz
        cases dp_int h1
        cases dp_int h2
        cases dp_bl h3
        have step : (ls.take (k + 1)).foldl (linkR i j) (baseR bs i j) = linkR i j ((ls.take k).foldl (linkR i j) (baseR bs i j)) l := by
          rw [List.take_add_one, el, List.foldl_append]
          rfl
        have no : ¬ (l.1 = i ∧ l.2.1 = j) → opV ((ls.take k).foldl (linkR i j) (baseR bs i j)) = opV ((ls.take (k + 1)).foldl (linkR i j) (baseR bs i j)) := fun z => by
          rw [step]
          unfold linkR
          rw [if_neg z]
        refine ⟨t, _, rfl, ht, rfl, _, _, rfl, _, _, rfl, _, _, rfl, rfl, ?_⟩
        refine ⟨_, rfl, _, rfl, rfl, _, rfl, ite2 (fun e1 => ?_) (fun e1 => ?_)⟩
        · have q1 : l.1 = i := by have := V.int.inj (of_decide_eq_true e1); omega
          refine ⟨_, rfl, _, rfl, rfl, _, rfl, ite2 (fun e2 => ?_) (fun e2 => ?_)⟩
          · have q2 : l.2.1 = j := by have := V.int.inj (of_decide_eq_true e2); omega
            have yes : opV ((ls.take (k + 1)).foldl (linkR i j) (baseR bs i j)) = .bl (l.2.2 || decide ((ls.take k).foldl (linkR i j) (baseR bs i j) = some true)) := by
              rw [step]
              conv => lhs; unfold linkR
              rw [if_pos ⟨q1, q2⟩]
              rfl
            rw [yes]
            generalize (ls.take k).foldl (linkR i j) (baseR bs i j) = o
            obtain ⟨l1, l2, st⟩ := l
            cases st with
            | true => exact ⟨_, rfl, true, rfl, s2, _, _, _, _, rfl⟩
            | false =>
              refine ⟨_, rfl, false, rfl, _, rfl, true, rfl, ?_, s2, y5, some (.int (l1 : Int)), some (.int (l2 : Int)), some (.bl false), ?_⟩
              · cases o with
                | none => exact .inl rfl
                | some b => exact .inr ⟨b, rfl⟩
              · cases o with
                | none => rfl
                | some b => cases b <;> rfl
          · refine ⟨s2, y5, some (.int (l.1 : Int)), some (.int (l.2.1 : Int)), some (.bl l.2.2), ?_⟩
            rw [← no fun z => e2 (decide_eq_true (by rw [z.2]))]
            rfl
        · refine ⟨s2, y5, some (.int (l.1 : Int)), some (.int (l.2.1 : Int)), some (.bl l.2.2), ?_⟩
          rw [← no fun z => e1 (decide_eq_true (by rw [z.1]))]
          rfl
    · rintro σ H2 ⟨s2, y5, y6, y7, y8, rfl⟩
      refine ⟨_, rfl, ?_⟩
      rw [dpa_len hx, List.length_map, List.take_of_length_le (Nat.le_refl _)]
      exact Z _ (s1.trans s2)
theorem ok__law_steps {f : Addr} {fd : FuncData} (F : Fun K "_law_steps" "_law_steps" s__law_steps f fd) (D__law_step : Dn P w K mg base CX0 3 "_law_step" (sp__law_step K)) (m_range : mg "range" = none) (m_len : mg "len" = none) : FnOk P w K mg base CX0 4 f fd ["_law_buys", "_law_links"] (sp__law_steps K) := by
  refine F.ok sc__law_steps (fun vs H Q E h => ?_) (fun cdv A outer s H vs Q E hr h => ?_)
  · obtain ⟨vb, vl, bs, ls, g, rfl, _⟩ := h
    rfl
  · refine ⟨_, (pss_one (ps_ret (pe_lc (own := [("_law_i", 2)]) (g := gName 2) (tt := tYes) rfl sc__law_steps.nd (pi_range1 rfl m_range (pa_cons (pe_callB call_len_seq (by rfl) m_len (by decide +kernel) (pa_cons (pv 0) pa_nil)) pa_nil)) (blkOk_by (N := N__law_steps) (sc := defScope s__law_steps) (by decide +kernel)) (fun _ _ _ _ _ => (pg_name (i := 2) sc__law_steps.nd rfl (Or.inr rfl))) (fun _ _ _ _ _ => pts_nil) (fun _ _ _ _ _ => (pe_lc (own := [("_law_j", 3)]) (g := gName 3) (tt := tYes) rfl sc__law_steps.nd (pi_range1 rfl m_range (pa_cons (pe_callB (call_len_seqK (K := K) rfl) (by rfl) m_len (by decide +kernel) (pa_cons (pv 0) pa_nil)) pa_nil)) (blkOk_by (by kernel_rfl)) (fun _ _ _ _ _ => (pg_name (i := 3) sc__law_steps.nd rfl (Or.inl rfl))) (fun _ _ _ _ _ => pts_nil) (fun _ _ _ _ _ => (pe_d D__law_step hr (by decide) (by rfl) pass0 (pa_cons (pv 0) (pa_cons (pv 1) (pa_cons (pv 2) (pa_cons (pv 3) pa_nil))))))))))), ?_⟩
    obtain ⟨vb, vl, bs, ls, g, rfl, hB, hL, g4, ok, hn, Z⟩ := h
    obtain ⟨a, xs, rfl, sA, hx⟩ := dp_lst hB
    have lx : xs.length = bs.length := by rw [dpa_len hx, List.length_map]
    refine ⟨_, rfl, a, _, rfl, .inl sA, ?_⟩
    rw [lx]
    refine ⟨_, rfl, by omega, by omega, fun D nD => ?_⟩
    refine lc_range (lo := 0) (n := bs.length) (fun i H2 => Same H H2 ∧ Gr K H H2 [D] D (((stepsR bs ls).take i).map fun r => PyData.list (r.map opD))) ⟨same_upd nD, by rw [List.take_zero]; exact Gr.start (Same.refl _) nD (by simp)⟩ ?_ ?_
    · rintro i H2 hi ⟨s2, gD⟩
      refine ⟨rfl, ?_⟩
      refine ⟨_, rfl, a, _, rfl, .inl (s2.seq sA), ?_⟩
      rw [lx]
      refine ⟨_, rfl, by omega, by omega, fun D2 nD2 => ?_⟩
      have ei : (stepsR bs ls)[i]? = some ((List.range bs.length).map fun j => stepR bs ls i j) := by
        unfold stepsR
        rw [List.getElem?_map, List.getElem?_range hi]
        rfl
      refine lc_range (lo := 0) (n := bs.length) (fun j H3 => Same H2 H3 ∧ Gr K H2 H3 [D2] D2 ((((List.range bs.length).map fun j => stepR bs ls i j).take j).map opD)) ⟨same_upd nD2, by rw [List.take_zero]; exact Gr.start (Same.refl _) nD2 (by simp)⟩ ?_ ?_
      · rintro j H3 hj ⟨s3, gE⟩
        refine ⟨rfl, ?_⟩
        refine ⟨_, rfl, _, rfl, _, rfl, _, rfl, _, vl, bs, ls, i, j, g, ?_, dp_same (s2.trans s3) hB, dp_same (s2.trans s3) hL, hi, hj, g4, ok, fun H4 s4 => ?_⟩
        · show [V.ref a, vl, V.int (0 + (i : Int)), V.int (0 + (j : Int))] = _
          rw [Int.zero_add, Int.zero_add]
        have ej : ((List.range bs.length).map fun j => stepR bs ls i j)[j]? = some (stepR bs ls i j) := by
          rw [List.getElem?_map, List.getElem?_range hj]
          rfl
        obtain ⟨acc, e1, e2, g2⟩ := (gE.same s4).push (dp_op (stepR bs ls i j)) (by rw [List.length_map, List.length_take]; omega)
        refine ⟨acc, e1, e2, same_mut (s3.trans s4) nD2, ?_⟩
        rw [List.take_add_one, ej, List.map_append]
        exact g2
      · rintro H3 ⟨s3, gE⟩
        rw [List.take_of_length_le (by rw [List.length_map, List.length_range]; exact Nat.le_refl _)] at gE
        obtain ⟨acc, e1, e2, g2⟩ := (gD.same s3).push (new_in s2 (fun b hb => by rw [List.mem_singleton.mp hb]; exact gD.hard) gE.done) (by rw [List.length_map, List.length_take]; omega)
        refine ⟨acc, e1, e2, same_mut (s2.trans s3) nD, ?_⟩
        rw [List.take_add_one, ei, List.map_append]
        exact g2
    · rintro H2 ⟨s2, gD⟩
      rw [List.take_of_length_le (by unfold stepsR; rw [List.length_map, List.length_range]; exact Nat.le_refl _)] at gD
      exact Z _ _ s2 gD.done
theorem ok__law_is_integer {f : Addr} {fd : FuncData} (F : Fun K "_law_is_integer" "_law_is_integer" s__law_is_integer f fd) (m_isinstance : mg "isinstance" = none) (m_int : mg "int" = none) (m_bool : mg "bool" = none) : FnOk P w K mg base CX0 1 f fd ["_law_x"] (sp__law_is_integer K) := by
  refine F.ok sc__law_is_integer (fun vs H Q E h => ?_) (fun cdv A outer s H vs Q E hr h => ?_)
  · obtain ⟨i, rfl, _⟩ := h
    rfl
  · refine ⟨_, (pss_one (ps_ret (pe_and (pe_callB call_isi (by rfl) m_isinstance (by decide +kernel) (pa_cons (pv 0) (pa_cons (pe_bltn (v := .ty "int") (by rfl) m_int (by decide +kernel) rfl) pa_nil))) (pe_one (pe_not (pe_callB call_isi (by rfl) m_isinstance (by decide +kernel) (pa_cons (pv 0) (pa_cons (pe_bltn (v := .ty "bool") (by rfl) m_bool (by decide +kernel) rfl) pa_nil)))))))), ?_⟩
    obtain ⟨i, rfl, Z⟩ := h
    refine ⟨_, rfl, _, _, _, _, true, rfl, .ty _, .base (.int i), kit_ty (by decide +kernel), true, rfl, iteT ?_⟩
    refine ⟨_, rfl, _, _, _, _, false, rfl, .ty _, .base (.int i), kit_ty (by decide +kernel), false, rfl, ?_⟩
    exact Z
theorem ok__law_same {f : Addr} {fd : FuncData} (F : Fun K "_law_same" "_law_same" s__law_same f fd) (D__law_is_integer : Dn P w K mg base CX0 1 "_law_is_integer" (sp__law_is_integer K)) {n : Nat} (D__law_same : Dn P w K mg base CX0 (1 + n) "_law_same" (sp__law_same n K)) (m_isinstance : mg "isinstance" = none) (m_bool : mg "bool" = none) (m_int : mg "int" = none) (m_list : mg "list" = none) (m_tuple : mg "tuple" = none) (m_range : mg "range" = none) (m_str : mg "str" = none) (m_len : mg "len" = none) : FnOk P w K mg base CX0 (1 + n + 1) f fd ["_law_actual", "_law_due"] (sp__law_same (n + 1) K) := by
  refine F.ok sc__law_same (fun vs H Q E h => ?_) (fun cdv A outer s H vs Q E hr h => ?_)
  · obtain ⟨x, y, d, rfl, _⟩ := h
    rfl
  · refine ⟨_, (pss_cons (ps_if (PW.pt (pw_or (pt_val (pe_callB call_isi (by rfl) m_isinstance (by decide +kernel) (pa_cons (pv 1) (pa_cons (pe_bltn (v := .ty "list") (by rfl) m_list (by decide +kernel) rfl) pa_nil)))) (pw_or1 (pt_val (pe_callB call_isi (by rfl) m_isinstance (by decide +kernel) (pa_cons (pv 1) (pa_cons (pe_bltn (v := .ty "tuple") (by rfl) m_tuple (by decide +kernel) rfl) pa_nil)))))))
      (pss_cons (ps_if (PW.pt (pw_or (pt_cmpR op_ne (pe_callB call_isi (by rfl) m_isinstance (by decide +kernel) (pa_cons (pv 0) (pa_cons (pe_bltn (v := .ty "list") (by rfl) m_list (by decide +kernel) rfl) pa_nil))) (pe_callB call_isi (by rfl) m_isinstance (by decide +kernel) (pa_cons (pv 1) (pa_cons (pe_bltn (v := .ty "list") (by rfl) m_list (by decide +kernel) rfl) pa_nil))) (nomark _)) (pw_or1 (pt_cmpR op_ne (pe_callB call_isi (by rfl) m_isinstance (by decide +kernel) (pa_cons (pv 0) (pa_cons (pe_bltn (v := .ty "tuple") (by rfl) m_tuple (by decide +kernel) rfl) pa_nil))) (pe_callB call_isi (by rfl) m_isinstance (by decide +kernel) (pa_cons (pv 1) (pa_cons (pe_bltn (v := .ty "tuple") (by rfl) m_tuple (by decide +kernel) rfl) pa_nil))) (nomark _)))))
      (pss_one (ps_ret pe_bl))
      pss_nil)
      (pss_cons (ps_if (pt_cmpR op_ne (pe_callB call_len_seq (by rfl) m_len (by decide +kernel) (pa_cons (pv 0) pa_nil)) (pe_callB call_len_seq (by rfl) m_len (by decide +kernel) (pa_cons (pv 1) pa_nil)) (nomark _))
      (pss_one (ps_ret pe_bl))
      pss_nil)
      (pss_cons (ps_for PassesOwn.never rfl (pi_range1 rfl m_range (pa_cons (pe_callB call_len_seq (by rfl) m_len (by decide +kernel) (pa_cons (pv 1) pa_nil)) pa_nil)) (pg_name (i := 2) sc__law_same.nd rfl (Or.inl rfl))
      (pss_one (ps_if (pt_not (pt_val (pe_d D__law_same hr (by omega) (by rfl) pass0 (pa_cons (pe_ix ix_seq (pv 0) (pv 2) (fun _ _ => rfl)) (pa_cons (pe_ix ix_seq (pv 1) (pv 2) (fun _ _ => rfl)) pa_nil)))))
      (pss_one (ps_ret pe_bl))
      pss_nil)))
      (pss_one (ps_ret pe_bl)))))
      pss_nil)
      (pss_cons (ps_if (pt_val (pe_callB call_isi (by rfl) m_isinstance (by decide +kernel) (pa_cons (pv 1) (pa_cons (pe_bltn (v := .ty "bool") (by rfl) m_bool (by decide +kernel) rfl) pa_nil))))
      (pss_one (ps_ret (pe_and (pe_callB call_isi (by rfl) m_isinstance (by decide +kernel) (pa_cons (pv 0) (pa_cons (pe_bltn (v := .ty "bool") (by rfl) m_bool (by decide +kernel) rfl) pa_nil))) (pe_one (pe_cmpR op_eq (pv 0) (pv 1) (nomark _))))))
      pss_nil)
      (pss_cons (ps_if (pt_val (pe_callB call_isi (by rfl) m_isinstance (by decide +kernel) (pa_cons (pv 1) (pa_cons (pe_bltn (v := .ty "int") (by rfl) m_int (by decide +kernel) rfl) pa_nil))))
      (pss_one (ps_ret (pe_and (pe_d D__law_is_integer hr (by omega) (by rfl) pass0 (pa_cons (pv 0) pa_nil)) (pe_one (pe_cmpR op_eq (pv 0) (pv 1) (nomark _))))))
      pss_nil)
      (pss_one (ps_ret (pe_and (pe_callB call_isi (by rfl) m_isinstance (by decide +kernel) (pa_cons (pv 0) (pa_cons (pe_bltn (v := .ty "str") (by rfl) m_str (by decide +kernel) rfl) pa_nil))) (pe_one (pe_cmpR op_eq (pv 0) (pv 1) (nomark _))))))))), ?_⟩
    obtain ⟨x, y, d, rfl, hx, hy, hp, Z⟩ := h
    cases d with
    | none => exact hp.elim
    | dict kvs => exact hp.elim
    | bool b =>
      cases dp_bl hx
      cases dp_bl hy
      have tb : TyX K H (.bl b) (.type "bool") := .base (.bl b)
      refine ⟨_, rfl, _, _, _, _, false, rfl, .ty _, tb, kit_ty (by decide +kernel), _, rfl, _, rfl, _, _, _, _, false, rfl, .ty _, tb, kit_ty (by decide +kernel), _, rfl, ?_⟩
      refine ⟨_, rfl, _, _, _, _, true, rfl, .ty _, tb, kit_ty (by decide +kernel), _, rfl, iteT ?_⟩
      refine ⟨_, rfl, _, _, _, _, true, rfl, .ty _, tb, kit_ty (by decide +kernel), _, rfl, _, rfl, _, rfl, rfl, ?_⟩
      rw [decide_eq_true (rfl : V.bl b = V.bl b)]
      exact Z
    | int i =>
      cases dp_int hx
      cases dp_int hy
      have tb : TyX K H (.int i) (.type "int") := .base (.int i)
      refine ⟨_, rfl, _, _, _, _, false, rfl, .ty _, tb, kit_ty (by decide +kernel), _, rfl, _, rfl, _, _, _, _, false, rfl, .ty _, tb, kit_ty (by decide +kernel), _, rfl, ?_⟩
      refine ⟨_, rfl, _, _, _, _, false, rfl, .ty _, tb, kit_ty (by decide +kernel), _, rfl, iteF ?_⟩
      refine ⟨_, rfl, _, _, _, _, true, rfl, .ty _, tb, kit_ty (by decide +kernel), _, rfl, iteT ?_⟩
      refine ⟨_, rfl, i, rfl, true, rfl, _, rfl, _, rfl, rfl, ?_⟩
      rw [decide_eq_true (rfl : V.int i = V.int i)]
      exact Z
    | str z =>
      cases dp_str hx
      cases dp_str hy
      have tb : TyX K H (.str z) (.type "str") := .base (.str z)
      refine ⟨_, rfl, _, _, _, _, false, rfl, .ty _, tb, kit_ty (by decide +kernel), _, rfl, _, rfl, _, _, _, _, false, rfl, .ty _, tb, kit_ty (by decide +kernel), _, rfl, ?_⟩
      refine ⟨_, rfl, _, _, _, _, false, rfl, .ty _, tb, kit_ty (by decide +kernel), _, rfl, iteF ?_⟩
      refine ⟨_, rfl, _, _, _, _, false, rfl, .ty _, tb, kit_ty (by decide +kernel), _, rfl, iteF ?_⟩
      refine ⟨_, rfl, _, _, _, _, true, rfl, .ty _, tb, kit_ty (by decide +kernel), _, rfl, _, rfl, _, rfl, rfl, ?_⟩
      rw [decide_eq_true (rfl : V.str z = V.str z)]
      exact Z
    | list ds =>
      obtain ⟨a, xs, rfl, sA, hxs⟩ := dp_lst hx
      obtain ⟨b, ys, rfl, sB, hys⟩ := dp_lst hy
      have ta : TyX K H (.ref a) (.type "list") := tyL sA
      have tb : TyX K H (.ref b) (.type "list") := tyL sB
      have lx := dpa_len hxs
      have ly := dpa_len hys
      refine ⟨_, rfl, _, _, _, _, true, rfl, .ty _, tb, kit_ty (by decide +kernel), _, rfl, ?_⟩
      refine ⟨_, rfl, _, _, _, _, true, rfl, .ty _, ta, kit_ty (by decide +kernel), _, rfl, _, _, _, _, true, rfl, .ty _, tb, kit_ty (by decide +kernel), rfl, _, rfl, _, rfl, _, _, _, _, false, rfl, .ty _, ta, kit_ty (by decide +kernel), _, rfl, _, _, _, _, false, rfl, .ty _, tb, kit_ty (by decide +kernel), rfl, _, rfl, ?_⟩
      refine ⟨_, rfl, a, _, rfl, .inl sA, _, rfl, b, _, rfl, .inl sB, rfl, _, rfl, iteNS (by rw [lx, ly]) ?_⟩
      refine ⟨_, rfl, b, _, rfl, .inl sB, ?_⟩
      refine ⟨_, rfl, by have := hp.1; omega, by have := hp.1; omega, ?_⟩
      refine for_range (lo := 0) (n := ys.length) (fun i σ H2 => H2 = H ∧ ∃ y2 : Option V, σ = [some (.ref a), some (.ref b), y2]) ⟨rfl, _, rfl⟩ ?_ ?_
      · rintro i σ H2 hi ⟨rfl, y2, rfl⟩
        have ed : ds[i]? = some (ds[i]'(by omega)) := List.getElem?_eq_getElem _
        obtain ⟨x, ex, dx⟩ := dpa_get hxs ed
        obtain ⟨y, ey, dy⟩ := dpa_get hys ed
        have hxk : atI xs (0 + (i : Int)) = some x := by rw [Int.zero_add]; exact atI_nat ex
        have hyk : atI ys (0 + (i : Int)) = some y := by rw [Int.zero_add]; exact atI_nat ey
        exact ⟨_, rfl, _, rfl, .inl ⟨_, _, _, _, rfl, rfl, sA, hxk, _, rfl, _, rfl, .inl ⟨_, _, _, _, rfl, rfl, sB, hyk, x, y, _, rfl, dx, dy, hp.2 _ (List.mem_of_getElem? ed), true, rfl, iteF ⟨rfl, _, rfl⟩⟩⟩⟩
      · rintro σ H2 ⟨rfl, y2, rfl⟩
        exact Z
    | tuple ds =>
      obtain ⟨a, xs, rfl, sA, hxs⟩ := dp_tup hx
      obtain ⟨b, ys, rfl, sB, hys⟩ := dp_tup hy
      have ta : TyX K H (.ref a) (.type "tuple") := tyT sA
      have tb : TyX K H (.ref b) (.type "tuple") := tyT sB
      have lx := dpa_len hxs
      have ly := dpa_len hys
      refine ⟨_, rfl, _, _, _, _, false, rfl, .ty _, tb, kit_ty (by decide +kernel), _, rfl, _, rfl, _, _, _, _, true, rfl, .ty _, tb, kit_ty (by decide +kernel), _, rfl, ?_⟩
      refine ⟨_, rfl, _, _, _, _, false, rfl, .ty _, ta, kit_ty (by decide +kernel), _, rfl, _, _, _, _, false, rfl, .ty _, tb, kit_ty (by decide +kernel), rfl, _, rfl, _, rfl, _, _, _, _, true, rfl, .ty _, ta, kit_ty (by decide +kernel), _, rfl, _, _, _, _, true, rfl, .ty _, tb, kit_ty (by decide +kernel), rfl, _, rfl, ?_⟩
      refine ⟨_, rfl, a, _, rfl, .inr sA, _, rfl, b, _, rfl, .inr sB, rfl, _, rfl, iteNS (by rw [lx, ly]) ?_⟩
      refine ⟨_, rfl, b, _, rfl, .inr sB, ?_⟩
      refine ⟨_, rfl, by have := hp.1; omega, by have := hp.1; omega, ?_⟩
      refine for_range (lo := 0) (n := ys.length) (fun i σ H2 => H2 = H ∧ ∃ y2 : Option V, σ = [some (.ref a), some (.ref b), y2]) ⟨rfl, _, rfl⟩ ?_ ?_
      · rintro i σ H2 hi ⟨rfl, y2, rfl⟩
        have ed : ds[i]? = some (ds[i]'(by omega)) := List.getElem?_eq_getElem _
        obtain ⟨x, ex, dx⟩ := dpa_get hxs ed
        obtain ⟨y, ey, dy⟩ := dpa_get hys ed
        have hxk : atI xs (0 + (i : Int)) = some x := by rw [Int.zero_add]; exact atI_nat ex
        have hyk : atI ys (0 + (i : Int)) = some y := by rw [Int.zero_add]; exact atI_nat ey
        exact ⟨_, rfl, _, rfl, .inr ⟨_, _, _, _, rfl, rfl, sA, hxk, _, rfl, _, rfl, .inr ⟨_, _, _, _, rfl, rfl, sB, hyk, x, y, _, rfl, dx, dy, hp.2 _ (List.mem_of_getElem? ed), true, rfl, iteF ⟨rfl, _, rfl⟩⟩⟩⟩
      · rintro σ H2 ⟨rfl, y2, rfl⟩
        exact Z
theorem ok__law_unchanged {f : Addr} {fd : FuncData} (F : Fun K "_law_unchanged" "_law_unchanged" s__law_unchanged f fd) (D__law_same : Dn P w K mg base CX0 7 "_law_same" (sp__law_same 6 K)) : FnOk P w K mg base CX0 8 f fd ["_law_data_here", "_law_goods", "_law_buys", "_law_links"] (sp__law_unchanged K) := by
  refine F.ok sc__law_unchanged (fun vs H Q E h => ?_) (fun cdv A outer s H vs Q E hr h => ?_)
  · obtain ⟨a, vb, vl, g, bs, ls, rfl, _⟩ := h
    rfl
  · refine ⟨_, (pss_cons (ps_if (PW.pt (pw_or (pt_not (pt_val (pe_d D__law_same hr (by decide) (by rfl) pass0 (pa_cons (pe_fld (pv 0) rfl) (pa_cons (pv 1) pa_nil))))) (pw_or1 (pt_not (pt_val (pe_d D__law_same hr (by decide) (by rfl) pass0 (pa_cons (pe_fld (pv 0) rfl) (pa_cons (pv 3) pa_nil))))))))
      (pss_one (ps_ret pe_bl))
      pss_nil)
      (pss_one (ps_ret (pe_d D__law_same hr (by decide) (by rfl) pass0 (pa_cons (pe_fld (pv 0) rfl) (pa_cons (pv 2) pa_nil)))))), ?_⟩
    obtain ⟨a, vb, vl, g, bs, ls, rfl, hD, hB, hL, hg, hb, hl, ok, Z⟩ := h
    obtain ⟨⟨C, dx, fs, h1, cl, na, lk⟩, v, w, ⟨C2, dx2, fs2, h2, cl2, na2, lk2⟩, hv, ⟨C3, dx3, fs3, h3, cl3, na3, lk3⟩, hw⟩ := hD
    refine ⟨_, rfl, a, C, dx, fs, _, rfl, h1, cl, na, lk, _, rfl, _, _, _, rfl, .int _, .int _, trivial, true, rfl, ?_⟩
    refine ⟨_, rfl, a, C3, dx3, fs3, _, rfl, h3, cl3, na3, lk3, _, rfl, _, _, _, rfl, hw, hL, (plain_ls hl).mono (by decide), true, rfl, ?_⟩
    exact ⟨_, rfl, a, C2, dx2, fs2, _, rfl, h2, cl2, na2, lk2, _, rfl, _, _, _, rfl, hv, hB, (plain_bs hg hb ok).mono (by decide), Z⟩
theorem ok__law_walk {f : Addr} {fd : FuncData} (F : Fun K "_law_walk" "_law_walk" s__law_walk f fd) (m_len : mg "len" = none) (m_range : mg "range" = none) (m_list : mg "list" = none) (m_int : mg "int" = none) : FnOk P w K mg base CX0 1 f fd ["_law_row_here", "_law_steps_here", "_law_many"] (sp__law_walk K) := by
  refine F.ok sc__law_walk (fun vs H Q E h => ?_) (fun cdv A outer s H vs Q E hr h => ?_)
  · obtain ⟨a, v, row, ST, m, rfl, _⟩ := h
    rfl
  · refine ⟨_, (pss_cons (ps_set (i := 3) sc__law_walk.nd rfl (Or.inl rfl) (pe_callB call_len_seq (by rfl) m_len (by decide +kernel) (pa_cons (pv 1) pa_nil)))
      (pss_cons (ps_set (i := 4) sc__law_walk.nd rfl (Or.inr rfl) (pe_lst pa_nil))
      (pss_cons (ps_for PassesOwn.never rfl (pi_range1 rfl m_range (pa_cons (pv 2) pa_nil)) (pg_name (i := 5) sc__law_walk.nd rfl (Or.inl rfl))
      (pss_cons (ps_set (i := 6) sc__law_walk.nd rfl (Or.inl rfl) (pe_listRg rfl (by rfl) m_list (prg_1 (by rfl) m_range (pv 3))))
      (C8.pss_cut (ps_if (pt_truth (pv 4) (by intro _; rfl))
      (pss_one (ps_setLc (i := 6) (own := [("_law_j", 7)]) (g := gName 7) rfl sc__law_walk.nd rfl rfl (sw_true rfl rfl rfl (by decide +kernel)) (pi_range1 rfl m_range (pa_cons (pv 3) pa_nil)) (blkOk_by (N := N__law_walk) (sc := defScope s__law_walk) (by decide +kernel)) (fun _ _ _ _ _ => (pg_name (i := 7) sc__law_walk.nd rfl (Or.inl rfl))) (fun _ _ _ _ _ => (pts_one (pt_cmpR op_notN (pe_ix (ix_listK (K := K) rfl) (pe_ix (ix_listK (K := K) rfl) (pv 1) (pe_ix (ix_listK (K := K) rfl) (pv 4) (pe_un un_neg pe_int) (fun _ _ => rfl)) (fun _ _ => rfl)) (pv 7) (fun _ _ => rfl)) pe_non (nomark _)))) (fun _ _ _ _ _ => (pv 7))))
      pss_nil)
      (pss_one (ps_if (pt_truth (pv 6) (by intro _; rfl))
      (pss_one (ps_expr (pe_bm PySem.F.plainAttrs_list PySem.F.slot_list_append PySem.F.type_list_append mt_append (pv 4) (pa_cons (pe_ix ix_list (pv 6) (pe_op op_mod (pe_callTy call_int1 (by rfl) m_int (by decide +kernel) (pa_cons (pe_ix ix_list (pv 0) (pv 5) (fun _ _ => rfl)) pa_nil)) (pe_callB call_len_seq (by rfl) m_len (by decide +kernel) (pa_cons (pv 6) pa_nil))) (fun _ _ => rfl)) pa_nil))))
      pss_nil)))))
      (pss_one (ps_ret (pv 4)))))), ?_⟩
    obtain ⟨a, v, row, ST, m, rfl, hR, hm, m1, hT, hn, hr, Z⟩ := h
    obtain ⟨b, ys, rfl, sB, hy⟩ := dp_lst hT
    have ly : ys.length = ST.length := by rw [dpa_len hy, List.length_map]
    refine ⟨_, rfl, b, _, rfl, .inl sB, ?_⟩
    rw [ly]
    obtain ⟨n, en⟩ : ∃ n, n = ST.length := ⟨_, rfl⟩
    have full : ∀ {zs : List Int}, zs ≠ [] → (!(zs.map V.int).isEmpty) = true := fun {zs} h => by
      cases zs with
      | nil => exact absurd rfl h
      | cons z r => rfl
    have inside : ∀ (i : Nat), i < n → (0 : Int) ≤ (i : Int) ∧ (i : Int) < (n : Int) := fun i hi => ⟨by omega, by omega⟩
    rw [← en] at hn ⊢
    refine ⟨Nat.zero_le _, fun pc nc => ?_⟩
    refine ⟨_, rfl, _, rfl, by omega, by omega, ?_⟩
    refine for_range (lo := 0) (n := m) (fun k σ H3 => Same H H3 ∧ ∃ (xs : List Int) (y5 y6 y7 : Option V), H3 pc = some (.lst (xs.map V.int)) ∧ xs.length ≤ k ∧ (∀ x ∈ xs, 0 ≤ x ∧ x < (n : Int)) ∧ σ = [some (.ref a), some (.ref b), some (.int (m : Int)), some (.int (n : Int)), some (.ref pc), y5, y6, y7]) ⟨same_upd nc, [], _, _, _, upd_same, Nat.zero_le _, (fun x h => nomatch h), rfl⟩ ?_ ?_
    · rintro k σ H3 hk ⟨s3, xs, y5, y6, y7, hpc, lx, rx, rfl⟩
      rw [Int.zero_add]
      refine ⟨_, rfl, _, rfl, RgOk.of_le (by omega) (by omega) (by omega) (by omega), fun q nq => ?_⟩
      have hq : (upd H3 q (.lst (rgV 0 (n : Int)))) q = some (.lst (((List.range n).map fun (i : Nat) => (i : Int)).map V.int)) := by
        rw [upd_same]
        unfold rgV
        rw [List.map_map, Int.sub_zero, Int.toNat_natCast]
        refine congrArg some (congrArg HO.lst (List.map_congr_left fun i _ => ?_))
        show V.int (0 + (i : Int)) = V.int (i : Int)
        rw [Int.zero_add]
      have s34 : Same H3 (upd H3 q (.lst (rgV 0 (n : Int)))) := same_upd nq
      generalize upd H3 q (.lst (rgV 0 (n : Int))) = H4 at hq s34 ⊢
      have hpc4 := s34 _ _ hpc
      have hR4 := (s3.trans s34).seq hR
      refine ⟨fun σ H5 => Same H4 H5 ∧ ∃ (q : Addr) (zs : List Int) (y7 : Option V), H5 q = some (.lst (zs.map V.int)) ∧ zs.length ≤ 100 ∧ (∀ z ∈ zs, 0 ≤ z ∧ z < (n : Int)) ∧ σ = [some (.ref a), some (.ref b), some (.int (m : Int)), some (.int (n : Int)), some (.ref pc), some (.int (k : Int)), some (.ref q), y7], ?_, ?_⟩
      · refine ⟨_, rfl, _, .inl ⟨_, SqL.of hpc4, rfl⟩, ?_⟩
        by_cases hxs : xs = []
        · subst hxs
          refine ⟨Same.refl _, q, _, _, hq, by rw [List.length_map, List.length_range]; omega, fun z hz => ?_, rfl⟩
          obtain ⟨i, hi, rfl⟩ := List.mem_map.mp hz
          exact inside i (List.mem_range.mp hi)
        · rw [full hxs]
          have ln : 0 < xs.length := List.length_pos_iff.mpr hxs
          obtain ⟨last, el⟩ : ∃ z, xs[xs.length - 1]? = some z := ⟨xs[xs.length - 1]'(by omega), List.getElem?_eq_getElem _⟩
          obtain ⟨l0, l1⟩ := rx last (List.mem_of_getElem? el)
          obtain ⟨c, ec⟩ := Int.eq_ofNat_of_zero_le l0
          have atl : atI (xs.map V.int) (-1) = some (.int (c : Int)) := atI_last (by rw [List.length_map, List.getElem?_map, el, ec]; rfl)
          have hy4 := dpa_same (s3.trans s34) hy
          have sB4 := (s3.trans s34).seq sB
          refine iteT ⟨_, rfl, _, rfl, by omega, by omega, fun D nD => ?_⟩
          have sD : Same H4 (upd H4 D (.lst [])) := same_upd nD
          refine lc_range (lo := 0) (n := n) (fun i H6 => Same H4 H6 ∧ ∃ zs : List Int, H6 D = some (.lst (zs.map V.int)) ∧ zs.length ≤ i ∧ ∀ z ∈ zs, 0 ≤ z ∧ z < (n : Int)) ⟨sD, [], upd_same, Nat.zero_le _, fun z h => nomatch h⟩ ?_ ?_
          · rintro i H6 hi ⟨s6, zs, hD6, lz, rz⟩
            obtain ⟨b2, ws, sb1, sb2, sb3⟩ := tab_at (i := c) (j := i) (dpa_same s6 hy4) (by omega) (fun r h => by rw [hr r h]; omega)
            refine ⟨rfl, ?_⟩
            rw [Int.zero_add]
            refine ⟨_, rfl, _, rfl, _, rfl, _, _, _, _, rfl, rfl, SqL.of (s6 _ _ hpc4), atl, _, _, _, _, rfl, rfl, s6.seq sB4, sb1, _, rfl, _, _, _, _, rfl, rfl, sb2, sb3, rfl, _, rfl, ?_⟩
            cases tabS ST c i with
            | none => exact iteF ⟨s6, zs, hD6, by omega, rz⟩
            | some bo =>
              refine iteT ⟨_, rfl, _, hD6, by rw [List.length_map]; exact small1000 (by omega), same_mut s6 nD, zs ++ [(i : Int)], by rw [upd_same, List.map_append]; rfl, by rw [List.length_append, List.length_singleton]; omega, fun z hz => ?_⟩
              rcases List.mem_append.mp hz with h | h
              · exact rz z h
              · rw [List.mem_singleton.mp h]
                exact inside i hi
          · rintro H6 ⟨s6, zs, hD6, lz, rz⟩
            exact ⟨s6, D, zs, _, hD6, by omega, rz, rfl⟩
      · rintro σ H5 ⟨s5, q5, zs, z7, hq5, lz, rz, rfl⟩
        have hpc5 := s5 _ _ hpc4
        have hR5 := s5.seq hR4
        obtain ⟨rk, erk⟩ : ∃ z, row[k]? = some z := ⟨row[k]'(by omega), List.getElem?_eq_getElem _⟩
        have atk : atI (row.map V.int) (k : Int) = some (.int rk) := atI_nat (by rw [List.getElem?_map, erk]; rfl)
        refine ⟨_, rfl, _, .inl ⟨_, SqL.of hq5, rfl⟩, ?_⟩
        by_cases hzs : zs = []
        · subst hzs
          exact ⟨s3.trans (s34.trans s5), xs, _, _, _, hpc5, by omega, rx, rfl⟩
        · rw [full hzs]
          have lz0 : 0 < ((zs.map V.int).length : Int) := by rw [List.length_map]; exact Int.natCast_pos.mpr (List.length_pos_iff.mpr hzs)
          obtain ⟨x, hx, atz⟩ := atI_mod lz0 rfl rk
          obtain ⟨z, hz, rfl⟩ := List.mem_map.mp hx
          refine iteT ⟨_, rfl, .inl ⟨rfl, _, SqL.of hpc5⟩, _, rfl, _, rfl, _, rfl, _, _, _, _, rfl, rfl, hR5, atk, .inl ⟨_, rfl, _, rfl, q5, _, rfl, .inl (SqL.of hq5), _, _, rfl, rfl, lz0, _, _, _, _, rfl, rfl, SqL.of hq5, atz, _, _, _, rfl, rfl, hpc5, by rw [List.length_map]; exact small1000 (by omega), ?_⟩⟩
          refine ⟨same_mut (s3.trans (s34.trans s5)) nc, xs ++ [z], _, _, _, by rw [upd_same, List.map_append]; rfl, by rw [List.length_append, List.length_singleton]; omega, fun y hy => ?_, rfl⟩
          rcases List.mem_append.mp hy with h | h
          · exact rx y h
          · rw [List.mem_singleton.mp h]
            exact rz z hz
    · rintro σ H3 ⟨s3, xs, y5, y6, y7, hpc, lx, rx, rfl⟩
      exact ⟨_, rfl, Z H3 pc xs s3 nc hpc lx⟩
theorem ok__law_list {f : Addr} {fd : FuncData} (F : Fun K "_law_list" "_law_list" s__law_list f fd) (D__law_walk : Dn P w K mg base CX0 1 "_law_walk" (sp__law_walk K)) (m_len : mg "len" = none) (m_int : mg "int" = none) (m_range : mg "range" = none) : FnOk P w K mg base CX0 2 f fd ["_law_row_here", "_law_steps_here"] (sp__law_list K) := by
  refine F.ok sc__law_list (fun vs H Q E h => ?_) (fun cdv A outer s H vs Q E hr h => ?_)
  · obtain ⟨a, v, row, ST, rfl, _⟩ := h
    rfl
  · refine ⟨_, (pss_cons (ps_set (i := 2) sc__law_list.nd rfl (Or.inr rfl) (pe_callB call_len_seq (by rfl) m_len (by decide +kernel) (pa_cons (pv 1) pa_nil)))
      (pss_cons (ps_set (i := 3) sc__law_list.nd rfl (Or.inl rfl) (pe_op op_mod (pe_callTy call_int1 (by rfl) m_int (by decide +kernel) (pa_cons (pe_ix ix_list (pv 0) pe_int (fun _ _ => rfl)) pa_nil)) pe_int))
      (pss_cons (ps_if (pt_cmpR op_eq (pe_op op_mod (pe_callTy call_int1 (by rfl) m_int (by decide +kernel) (pa_cons (pe_ix ix_list (pv 0) pe_int (fun _ _ => rfl)) pa_nil)) pe_int) pe_int (nomark _))
      (pss_one (ps_ret (pe_lc (own := [("_law_k", 5)]) (g := gName 5) (tt := tYes) rfl sc__law_list.nd (pi_range1 rfl m_range (pa_cons (pv 3) pa_nil)) (blkOk_by (N := N__law_list) (sc := defScope s__law_list) (by decide +kernel)) (fun _ _ _ _ _ => (pg_name (i := 5) sc__law_list.nd rfl (Or.inl rfl))) (fun _ _ _ _ _ => pts_nil) (fun _ _ _ _ _ => (pe_op op_sub (pe_op op_mod (pe_callTy call_int1 (by rfl) m_int (by decide +kernel) (pa_cons (pe_ix (ix_listK (K := K) rfl) (pv 0) (pe_op op_add pe_int (pv 5)) (fun _ _ => rfl)) pa_nil)) (pe_op op_add (pv 2) pe_int)) pe_int)))))
      pss_nil)
      (pss_cons (ps_set (i := 4) sc__law_list.nd rfl (Or.inl rfl) (pe_d D__law_walk hr (by decide) (by rfl) pass0 (pa_cons (pe_slice sl_list (pv 0) (po_some pe_int) po_none) (pa_cons (pv 1) (pa_cons (pv 3) pa_nil)))))
      (C8.pss_cut (ps_if (PW.pt (pw_and (pt_truth (pv 4) (by intro _; rfl)) (pw_and1 (pt_cmpR op_eq (pe_op op_mod (pe_callTy call_int1 (by rfl) m_int (by decide +kernel) (pa_cons (pe_ix ix_list (pv 0) pe_int (fun _ _ => rfl)) pa_nil)) pe_int) pe_int (nomark _)))))
      (pss_one (ps_asg (pe_op op_sub (pe_op op_mod (pe_callTy call_int1 (by rfl) m_int (by decide +kernel) (pa_cons (pe_ix ix_list (pv 0) pe_int (fun _ _ => rfl)) pa_nil)) (pe_op op_add (pv 2) pe_int)) pe_int) (pg_sub (pv 4) (pe_op op_mod (pe_callTy call_int1 (by rfl) m_int (by decide +kernel) (pa_cons (pe_ix ix_list (pv 0) pe_int (fun _ _ => rfl)) pa_nil)) (pe_callB call_len_seq (by rfl) m_len (by decide +kernel) (pa_cons (pv 4) pa_nil))) set_list)))
      pss_nil)
      (pss_one (ps_ret (pv 4)))))))), ?_⟩
    obtain ⟨a, v, row, ST, rfl, hR, hs, hT, hn, hr, Z⟩ := h
    obtain ⟨b, ys, rfl, sB, hy⟩ := dp_lst hT
    have ly : ys.length = ST.length := by rw [dpa_len hy, List.length_map]
    obtain ⟨v0, a0, b0, c0⟩ := hs.at 0 (by decide)
    obtain ⟨v1, a1, b1, c1⟩ := hs.at 1 (by decide)
    obtain ⟨v2, a2, b2, c2⟩ := hs.at 2 (by decide)
    obtain ⟨v3, a3, b3, c3⟩ := hs.at 3 (by decide)
    obtain ⟨v4, a4, b4, c4⟩ := hs.at 16 (by decide)
    refine ⟨_, rfl, b, _, rfl, .inl sB, ?_⟩
    rw [ly]
    obtain ⟨n, en⟩ : ∃ n, n = ST.length := ⟨_, rfl⟩
    rw [← en]
    obtain ⟨many, em⟩ := Int.eq_ofNat_of_zero_le (Int.emod_nonneg v0 (by decide : (13 : Int) ≠ 0))
    have lm := Int.emod_lt_of_pos v0 (by decide : (0 : Int) < 13)
    refine ⟨_, rfl, _, _, _, _, rfl, rfl, hR, a0, .inl ⟨_, rfl, _, _, rfl, rfl, by show (0 : Int) < 13; decide, ?_⟩⟩
    rw [show (fun i j : Int => V.int (i % j)) v0 13 = V.int (many : Int) from congrArg V.int em]
    have lmany : many ≤ 12 := by omega
    refine ⟨_, rfl, _, _, _, _, rfl, rfl, hR, a1, .inl ⟨_, rfl, _, _, rfl, rfl, by show (0 : Int) < 2; decide, rfl, _, rfl, ite2 (fun e => ?_) (fun e => ?_)⟩⟩
    · refine ⟨_, rfl, _, rfl, by omega, by omega, fun D nD => ?_⟩
      refine lc_range (lo := 0) (n := many) (fun i H2 => Same H H2 ∧ ∃ zs : List Int, H2 D = some (.lst (zs.map V.int)) ∧ zs.length = i) ⟨same_upd nD, [], upd_same, rfl⟩ ?_ ?_
      · rintro i H2 hi ⟨s2, zs, hD, lz⟩
        rw [Int.zero_add]
        obtain ⟨u, au, bu, cu⟩ := hs.at (4 + i) (by omega)
        have au' : atI (row.map V.int) (4 + (i : Int)) = some (.int u) := by
          rw [show (4 + (i : Int)) = ((4 + i : Nat) : Int) by omega]
          exact au
        refine ⟨rfl, ?_⟩
        refine ⟨_, rfl, _, rfl, _, _, rfl, rfl, _, _, _, _, rfl, rfl, s2.seq hR, au', .inl ⟨_, rfl, _, rfl, _, _, rfl, rfl, _, _, rfl, rfl, (show (0 : Int) < (n : Int) + 2 by omega), _, _, rfl, rfl, _, hD, by rw [List.length_map]; exact small1000 (by omega), same_mut s2 nD, zs ++ [u % ((n : Int) + 2) - 1], by rw [upd_same, List.map_append]; rfl, by rw [List.length_append, List.length_singleton, lz]⟩⟩
      · rintro H2 ⟨s2, zs, hD, lz⟩
        exact Z H2 D zs s2 nD hD (by omega)
    refine ⟨_, rfl, _, rfl, a, _, rfl, hR, fun p np => ?_⟩
    have s2 : Same H (upd H p (.lst (cutV (row.map V.int) (some 4) none))) := same_upd np
    have hp : (upd H p (.lst (cutV (row.map V.int) (some 4) none))) p = some (.lst ((row.drop 4).map V.int)) := by
      rw [upd_same, show (4 : Int) = ((4 : Nat) : Int) from rfl, cutV_at (by rw [List.length_map, hs.1]; decide), List.map_drop]
    generalize upd H p (.lst (cutV (row.map V.int) (some 4) none)) = H2 at s2 hp ⊢
    refine ⟨_, rfl, _, rfl, p, .ref b, row.drop 4, ST, many, rfl, SqL.of hp, by rw [List.length_drop, hs.1]; omega, by omega, dp_same s2 hT, hn, hr, fun H3 q xs s3 nq hq lx => ?_⟩
    have s23 := s2.trans s3
    have hR3 := s23.seq hR
    have nq0 : H q = none := s2.free nq
    refine ⟨fun σ H4 => Same H H4 ∧ ∃ (zs : List Int) (y5 : Option V), H4 q = some (.lst (zs.map V.int)) ∧ zs.length ≤ 12 ∧ σ = [some (.ref a), some (.ref b), some (.int (n : Int)), some (.int (many : Int)), some (.ref q), y5], ?_, ?_⟩
    · refine ⟨_, rfl, _, .inl ⟨_, SqL.of hq, rfl⟩, ?_⟩
      by_cases hxs : xs = []
      · subst hxs
        exact ⟨s23, [], _, hq, Nat.zero_le _, rfl⟩
      have full : (!(xs.map V.int).isEmpty) = true := by
        cases xs with
        | nil => exact absurd rfl hxs
        | cons z r => rfl
      rw [full]
      have pos : 0 < xs.length := List.length_pos_iff.mpr hxs
      refine iteT ⟨_, rfl, _, _, _, _, rfl, rfl, hR3, a2, .inl ⟨_, rfl, _, _, rfl, rfl, by show (0 : Int) < 2; decide, rfl, _, rfl, ite2 (fun e => ?_) (fun e => ?_)⟩⟩
      · obtain ⟨c, ec⟩ := Int.eq_ofNat_of_zero_le (Int.emod_nonneg v3 (show (xs.length : Int) ≠ 0 by omega))
        have lc := Int.emod_lt_of_pos v3 (show (0 : Int) < (xs.length : Int) by omega)
        refine ⟨_, rfl, _, _, _, _, rfl, rfl, hR3, a4, .inl ⟨_, rfl, _, rfl, _, _, rfl, rfl, _, _, rfl, rfl, (show (0 : Int) < (n : Int) + 2 by omega), _, _, rfl, rfl, ?_⟩⟩
        refine ⟨_, rfl, _, rfl, _, _, _, _, rfl, rfl, hR3, a3, .inl ⟨_, rfl, _, rfl, q, _, rfl, .inl (SqL.of hq), _, _, rfl, rfl, by rw [List.length_map]; omega, ?_⟩⟩
        have ec2 : v3 % ((xs.map V.int).length : Int) = (c : Int) := by rw [List.length_map]; exact ec
        refine ⟨q, _, _, c, rfl, rfl, hq, (by rw [ec2]; exact ixN_nat (by rw [List.length_map]; omega)), ?_⟩
        exact ⟨same_mut s23 nq0, xs.set c (v4 % ((n : Int) + 2) - 1), _, by rw [upd_same, List.map_set], by rw [List.length_set]; omega, rfl⟩
      · exact ⟨s23, xs, _, hq, by omega, rfl⟩
    · rintro σ H4 ⟨s4, zs, y5, hq4, lz, rfl⟩
      exact ⟨_, rfl, Z H4 q zs s4 nq0 hq4 lz⟩
theorem ok__law_chain {f : Addr} {fd : FuncData} (F : Fun K "_law_chain" "_law_chain" s__law_chain f fd) (D__law_is_integer : Dn P w K mg base CX0 1 "_law_is_integer" (sp__law_is_integer K)) (m_range : mg "range" = none) (m_isinstance : mg "isinstance" = none) (m_list : mg "list" = none) (m_len : mg "len" = none) : FnOk P w K mg base CX0 2 f fd ["_law_steps_here", "_law_chain_here"] (sp__law_chain K) := by
  refine F.ok sc__law_chain (fun vs H Q E h => ?_) (fun cdv A outer s H vs Q E hr h => ?_)
  · obtain ⟨v, ST, l, xs, rfl, _⟩ := h
    rfl
  · refine ⟨_, (pss_cons (ps_if (PW.pt (pw_or (pt_not (pt_val (pe_callB call_isi (by rfl) m_isinstance (by decide +kernel) (pa_cons (pv 1) (pa_cons (pe_bltn (v := .ty "list") (by rfl) m_list (by decide +kernel) rfl) pa_nil))))) (pw_or1 (pt_not (pt_truth (pv 1) (by intro _; rfl))))))
      (pss_one (ps_ret pe_non))
      pss_nil)
      (pss_cons (ps_for PassesOwn.never rfl (pi_list (pv 1)) (pg_name (i := 2) sc__law_chain.nd rfl (Or.inl rfl))
      (pss_one (ps_if (PW.pt (pw_or (pt_not (pt_val (pe_d D__law_is_integer hr (by decide) (by rfl) pass0 (pa_cons (pv 2) pa_nil)))) (pw_or1 (pt_not (pt_chain op_le op_lt pe_int (pv 2) (pe_callB call_len_seq (by rfl) m_len (by decide +kernel) (pa_cons (pv 0) pa_nil)))))))
      (pss_one (ps_ret pe_non))
      pss_nil)))
      (pss_cons (ps_set (i := 3) sc__law_chain.nd rfl (Or.inl rfl) pe_bl)
      (pss_cons (ps_for PassesOwn.never rfl (pi_range1 rfl m_range (pa_cons (pe_op op_sub (pe_callB call_len_seq (by rfl) m_len (by decide +kernel) (pa_cons (pv 1) pa_nil)) pe_int) pa_nil)) (pg_name (i := 4) sc__law_chain.nd rfl (Or.inl rfl))
      (pss_cons (ps_set (i := 5) sc__law_chain.nd rfl (Or.inl rfl) (pe_ix ix_list (pe_ix ix_list (pv 0) (pe_ix ix_list (pv 1) (pv 4) (fun _ _ => rfl)) (fun _ _ => rfl)) (pe_ix ix_list (pv 1) (pe_op op_add (pv 4) pe_int) (fun _ _ => rfl)) (fun _ _ => rfl)))
      (pss_cons (ps_if (pt_cmpR op_isN (pv 5) pe_non (nomark _))
      (pss_one (ps_ret pe_non))
      pss_nil)
      (pss_one (ps_set (i := 3) sc__law_chain.nd rfl (Or.inl rfl) (pe_or (pv 3) (pe_one (pv 5))))))))
      (pss_one (ps_ret (pv 3))))))), ?_⟩
    obtain ⟨v, ST, l, xs, rfl, hT, hr, hn, hl, hx, Z⟩ := h
    obtain ⟨a, ys, rfl, sA, hys⟩ := dp_lst hT
    have lx : ys.length = ST.length := by rw [dpa_len hys, List.length_map]
    have tl : TyX K H (.ref l) (.type "list") := tyL hl
    refine ⟨_, rfl, _, _, _, _, true, rfl, .ty _, tl, kit_ty (by decide +kernel), _, rfl, ?_⟩
    refine ⟨_, rfl, _, .inl ⟨_, hl, rfl⟩, ?_⟩
    rcases xs with _ | ⟨x0, xr⟩
    · exact Z
    obtain ⟨xs, exs⟩ : ∃ xs, xs = x0 :: xr := ⟨_, rfl⟩
    have hne : xs ≠ [] := by rw [exs]; exact List.cons_ne_nil _ _
    refine (show _ from ?_)
    rw [← exs] at hl hx Z
    have hcR : chainR (tabS ST) ST.length xs = if inRange ST.length xs = true then chainS (tabS ST) false xs else none := if_neg hne
    refine ⟨_, rfl, l, rfl, ⟨_, hl⟩, ?_⟩
    refine for_list (K := K) (a := l) (xs := xs.map V.int) (fun i σ H2 => H2 = H ∧ (∃ y2 : Option V, σ = [some (.ref a), some (.ref l), y2, none, none, none]) ∧ inRange ST.length (xs.take i) = true) ⟨rfl, ⟨_, rfl⟩, rfl⟩ (fun i σ H2 _ h => by rw [h.1]; exact hl) ?_ ?_
    · rintro i x σ H2 hi ⟨rfl, ⟨y2, rfl⟩, hin⟩
      rw [List.getElem?_map] at hi
      cases ec : xs[i]? with
      | none => rw [ec] at hi; cases hi
      | some c =>
        rw [ec] at hi
        cases Option.some.inj hi
        have next : inRange ST.length (xs.take (i + 1)) = (decide (0 ≤ c) && decide (c < (ST.length : Int))) := by
          unfold inRange at hin ⊢
          rw [List.take_add_one, ec, List.all_append, hin]
          simp
        have bad : (decide (0 ≤ c) && decide (c < (ST.length : Int))) = false → Q .non H2 := fun h => by
          have : inRange ST.length xs = false := by
            cases hh : inRange ST.length xs with
            | false => rfl
            | true =>
              unfold inRange at hh
              have := List.all_eq_true.mp hh c (List.mem_of_getElem? ec)
              rw [h] at this
              cases this
          rw [hcR, this] at Z
          exact Z
        refine ⟨_, rfl, c, rfl, true, rfl, ?_⟩
        refine ⟨_, rfl, _, _, rfl, rfl, _, rfl, ite2 (fun e1 => ?_) (fun e1 => ?_)⟩
        · refine ⟨_, rfl, a, _, rfl, .inl sA, _, _, rfl, rfl, _, rfl, ?_⟩
          rw [lx]
          by_cases e2 : c < (ST.length : Int)
          · rw [decide_eq_true e2]
            exact iteF ⟨rfl, ⟨_, rfl⟩, by rw [next, e1, decide_eq_true e2]; rfl⟩
          · rw [decide_eq_false e2]
            exact iteT (bad (by rw [decide_eq_false e2, Bool.and_false]))
        · have e1' : decide ((0 : Int) ≤ c) = false := by
            cases h : decide ((0 : Int) ≤ c) with
            | false => rfl
            | true => exact absurd h e1
          exact ⟨_, rfl, iteT (bad (by rw [e1']; rfl))⟩
    · rintro σ H2 ⟨rfl, ⟨y2, rfl⟩, hin⟩
      rw [List.length_map, List.take_of_length_le (Nat.le_refl _)] at hin
      rw [hcR, if_pos hin] at Z
      have lp := List.length_pos_iff.mpr hne
      refine ⟨_, rfl, l, _, rfl, .inl hl, _, _, rfl, rfl, ?_⟩
      rw [List.length_map, show (fun i j : Int => V.int (i - j)) (xs.length : Int) 1 = V.int ((xs.length - 1 : Nat) : Int) from congrArg V.int (by omega)]
      refine ⟨_, rfl, by omega, by omega, ?_⟩
      refine for_range (lo := 0) (n := xs.length - 1) (fun k σ H3 => H3 = H2 ∧ ∃ (st : Bool) (y4 y5 : Option V), σ = [some (.ref a), some (.ref l), y2, some (.bl st), y4, y5] ∧ chainS (tabS ST) false xs = chainS (tabS ST) st (xs.drop k)) ⟨rfl, false, _, _, rfl, rfl⟩ ?_ ?_
      · rintro k σ H3 hk ⟨rfl, st, y4, y5, rfl, e⟩
        rw [Int.zero_add]
        have ok : ∀ m, m < xs.length → ∃ c : Nat, xs[m]? = some (c : Int) ∧ c < ST.length := fun m hm => by
          have e1 : xs[m]? = some xs[m] := List.getElem?_eq_getElem hm
          unfold inRange at hin
          have h1 := List.all_eq_true.mp hin _ (List.getElem_mem hm)
          obtain ⟨h2, h3⟩ := Bool.and_eq_true_iff.mp h1
          have h2' := of_decide_eq_true h2
          have h3' := of_decide_eq_true h3
          obtain ⟨c, hc⟩ := Int.eq_ofNat_of_zero_le h2'
          exact ⟨c, by rw [e1, hc], by omega⟩
        obtain ⟨x, ex, hxl⟩ := ok k (by omega)
        obtain ⟨y, ey, hyl⟩ := ok (k + 1) (by omega)
        have atx : atI (xs.map V.int) (k : Int) = some (.int (x : Int)) := atI_nat (by rw [List.getElem?_map, ex]; rfl)
        have aty : atI (xs.map V.int) ((k : Int) + 1) = some (.int (y : Int)) := by
          rw [show ((k : Int) + 1) = ((k + 1 : Nat) : Int) by omega]
          exact atI_nat (by rw [List.getElem?_map, ey]; rfl)
        obtain ⟨b, zs, sb1, sb2, sb3⟩ := tab_at (i := x) (j := y) hys hxl (fun r h => by rw [hr r h]; exact hyl)
        refine ⟨_, rfl, _, rfl, _, rfl, _, _, _, _, rfl, rfl, hl, atx, _, _, _, _, rfl, rfl, sA, sb1, _, rfl, _, rfl, _, _, rfl, rfl, _, _, _, _, rfl, rfl, hl, aty, _, _, _, _, rfl, rfl, sb2, sb3, ?_⟩
        have st1 := chainS_drop (S := tabS ST) (st := st) (xs := xs.drop k) (x := (x : Int)) (y := (y : Int)) (by rw [List.getElem?_drop]; exact ex) (by rw [List.getElem?_drop]; exact ey)
        rw [Int.toNat_natCast, Int.toNat_natCast] at st1
        rw [← e, List.tail_drop] at st1
        cases eo : tabS ST x y with
        | none =>
          rw [eo] at st1
          rw [st1] at Z
          exact ⟨_, rfl, rfl, _, rfl, iteT Z⟩
        | some bo =>
          rw [eo] at st1
          refine ⟨_, rfl, rfl, _, rfl, iteF ?_⟩
          cases st with
          | true => exact ⟨_, rfl, true, rfl, rfl, true, _, _, rfl, st1⟩
          | false => exact ⟨_, rfl, false, rfl, _, rfl, rfl, bo, _, _, rfl, st1⟩
      · rintro σ H3 ⟨rfl, st, y4, y5, rfl, e⟩
        rw [e, chainS_end (by rw [List.length_drop]; omega)] at Z
        exact ⟨_, rfl, Z⟩
theorem ok__law_same_answer {f : Addr} {fd : FuncData} (F : Fun K "_law_same_answer" "_law_same_answer" s__law_same_answer f fd) (m_isinstance : mg "isinstance" = none) (m_bool : mg "bool" = none) : FnOk P w K mg base CX0 1 f fd ["_law_actual", "_law_due"] (sp__law_same_answer K) := by
  refine F.ok sc__law_same_answer (fun vs H Q E h => ?_) (fun cdv A outer s H vs Q E hr h => ?_)
  · obtain ⟨o, rfl, _⟩ := h
    rfl
  · refine ⟨_, (pss_cons (ps_if (pt_cmpR op_isN (pv 1) pe_non (nomark _))
      (pss_one (ps_ret (pe_cmpR op_isN (pv 0) pe_non (nomark _))))
      pss_nil)
      (pss_one (ps_ret (pe_and (pe_callB call_isi (by rfl) m_isinstance (by decide +kernel) (pa_cons (pv 0) (pa_cons (pe_bltn (v := .ty "bool") (by rfl) m_bool (by decide +kernel) rfl) pa_nil))) (pe_one (pe_cmpR op_eq (pv 0) (pv 1) (nomark _))))))), ?_⟩
    obtain ⟨o, rfl, Z⟩ := h
    cases o with
    | none =>
      refine ⟨_, rfl, rfl, _, rfl, iteT ?_⟩
      exact ⟨_, rfl, rfl, Z⟩
    | some b =>
      refine ⟨_, rfl, rfl, _, rfl, iteF ?_⟩
      have tb : TyX K H (.bl b) (.type "bool") := .base (.bl b)
      refine ⟨_, rfl, _, _, _, _, true, rfl, .ty _, tb, kit_ty (by decide +kernel), _, rfl, _, rfl, _, rfl, rfl, ?_⟩
      show Q (.bl (decide (V.bl b = V.bl b))) H
      rw [decide_eq_true (rfl : V.bl b = V.bl b)]
      exact Z
theorem ok_ratio {f : Addr} {fd : FuncData} (F : Fun K "ratio" "ratio" s_ratio f fd) (m_gcd : mg "gcd" = some (.builtin "math.gcd")) : FnOk P w K mg base CX0 1 f fd ["p", "q"] (sp_ratio K) := by
  refine F.ok sc_ratio (fun vs H Q E h => ?_) (fun cdv A outer s H vs Q E hr h => ?_)
  · obtain ⟨p, q, rfl, _⟩ := h
    rfl
  · refine ⟨_, (pss_cons (ps_set (i := 2) sc_ratio.nd rfl (Or.inl rfl) (pe_callBfun cr_gcd (by rfl) m_gcd (pa_cons (pv 0) (pa_cons (pv 1) pa_nil))))
      (C8.pss_cut (ps_if (pt_cmpR op_lt (pv 1) pe_int (nomark _))
      (pss_one (ps_set (i := 2) sc_ratio.nd rfl (Or.inl rfl) (pe_un un_neg (pv 2))))
      pss_nil)
      (pss_one (ps_ret (pe_tup (pa_cons (pe_op op_fdivG (pv 0) (pv 2)) (pa_cons (pe_op op_fdivG (pv 1) (pv 2)) pa_nil))))))), ?_⟩
    obtain ⟨p, q, rfl, hq, hs, Z⟩ := h
    refine ⟨_, rfl, _, rfl, p, q, rfl, ?_⟩
    refine ⟨fun σ H1 => H1 = H ∧ σ = [some (.int p), some (.int q), some (.int (if q < 0 then -((Nat.gcd p.natAbs q.natAbs : Nat) : Int) else ((Nat.gcd p.natAbs q.natAbs : Nat) : Int)))], ?_, fun σ' H' M => ?_⟩
    · refine ⟨_, rfl, _, _, rfl, rfl, _, rfl, ite2 (fun e => ?_) (fun e => ?_)⟩
      · have e' : q < 0 := of_decide_eq_true e
        refine ⟨_, rfl, _, rfl, ?_⟩
        rw [if_pos e']
        exact ⟨rfl, rfl⟩
      · have e' : ¬ q < 0 := fun z => e (decide_eq_true z)
        rw [if_neg e']
        exact ⟨rfl, rfl⟩
    · obtain ⟨rfl, rfl⟩ := M
      have c := ratio_common (p := p) hq
      refine ⟨_, rfl, _, rfl, _, _, rfl, rfl, ⟨c.1, Nat.lt_of_le_of_lt c.2 hs⟩, _, rfl, _, rfl, _, _, rfl, rfl, ⟨c.1, Nat.lt_of_le_of_lt c.2 hs⟩, by show 2 ≤ sizeLine; decide, fun a ha => ?_⟩
      refine Z _ a (same_upd ha) ha (SqT.of ?_)
      rw [upd_same, ← ratio_num hq, ← ratio_den hq]
theorem ok_add {f : Addr} {fd : FuncData} (F : Fun K "add" "add" s_add f fd) (D_ratio : Dn P w K mg base CX0 1 "ratio" (sp_ratio K)) : FnOk P w K mg base CX0 2 f fd ["a", "b"] (sp_add K) := by
  refine F.ok sc_add (fun vs H Q E h => ?_) (fun cdv A outer s H vs Q E hr h => ?_)
  · obtain ⟨a, b, r, s, rfl, _⟩ := h
    rfl
  · refine ⟨_, (pss_one (ps_ret (pe_d D_ratio hr (by decide) (by rfl) pass0 (pa_cons (pe_op op_add (pe_op op_mulG (pe_ix ix_tup (pv 0) pe_int (fun _ _ => rfl)) (pe_ix ix_tup (pv 1) pe_int (fun _ _ => rfl))) (pe_op op_mulG (pe_ix ix_tup (pv 1) pe_int (fun _ _ => rfl)) (pe_ix ix_tup (pv 0) pe_int (fun _ _ => rfl)))) (pa_cons (pe_op op_mulG (pe_ix ix_tup (pv 0) pe_int (fun _ _ => rfl)) (pe_ix ix_tup (pv 1) pe_int (fun _ _ => rfl))) pa_nil))))), ?_⟩
    obtain ⟨a, b, r, s, rfl, ha, hb, sr, ss, Z⟩ := h
    obtain ⟨h1, h2, h3⟩ := cross_lt sr ss
    refine ⟨_, rfl, _, _, _, _, rfl, rfl, ha, rfl, _, rfl, _, _, _, _, rfl, rfl, hb, rfl, _, _, rfl, rfl, mulG_b sr.1 ss.den (by decide), ?_⟩
    refine ⟨_, rfl, _, _, _, _, rfl, rfl, hb, rfl, _, rfl, _, _, _, _, rfl, rfl, ha, rfl, _, _, rfl, rfl, mulG_b ss.1 sr.den (by decide), _, _, rfl, rfl, ?_⟩
    refine ⟨_, rfl, _, _, _, _, rfl, rfl, ha, rfl, _, rfl, _, _, _, _, rfl, rfl, hb, rfl, _, _, rfl, rfl, mulG_b sr.den ss.den (by decide), ?_⟩
    refine ⟨_, _, rfl, Int.ne_of_gt (den_mul_pos r s), Nat.lt_of_lt_of_le h3 (Nat.pow_le_pow_right (by decide) (by decide)), ?_⟩
    rw [rat_add]
    exact Z
theorem ok_mul {f : Addr} {fd : FuncData} (F : Fun K "mul" "mul" s_mul f fd) (D_ratio : Dn P w K mg base CX0 1 "ratio" (sp_ratio K)) : FnOk P w K mg base CX0 2 f fd ["a", "b"] (sp_mul K) := by
  refine F.ok sc_mul (fun vs H Q E h => ?_) (fun cdv A outer s H vs Q E hr h => ?_)
  · obtain ⟨a, b, r, s, rfl, _⟩ := h
    rfl
  · refine ⟨_, (pss_one (ps_ret (pe_d D_ratio hr (by decide) (by rfl) pass0 (pa_cons (pe_op op_mulG (pe_ix ix_tup (pv 0) pe_int (fun _ _ => rfl)) (pe_ix ix_tup (pv 1) pe_int (fun _ _ => rfl))) (pa_cons (pe_op op_mulG (pe_ix ix_tup (pv 0) pe_int (fun _ _ => rfl)) (pe_ix ix_tup (pv 1) pe_int (fun _ _ => rfl))) pa_nil))))), ?_⟩
    obtain ⟨a, b, r, s, rfl, ha, hb, sr, ss, Z⟩ := h
    obtain ⟨h1, h2, h3⟩ := cross_lt sr ss
    refine ⟨_, rfl, _, _, _, _, rfl, rfl, ha, rfl, _, rfl, _, _, _, _, rfl, rfl, hb, rfl, _, _, rfl, rfl, mulG_b sr.1 ss.1 (by decide), ?_⟩
    refine ⟨_, rfl, _, _, _, _, rfl, rfl, ha, rfl, _, rfl, _, _, _, _, rfl, rfl, hb, rfl, _, _, rfl, rfl, mulG_b sr.den ss.den (by decide), ?_⟩
    refine ⟨_, _, rfl, Int.ne_of_gt (den_mul_pos r s), Nat.lt_of_lt_of_le h3 (Nat.pow_le_pow_right (by decide) (by decide)), ?_⟩
    rw [rat_mul]
    exact Z
theorem ok_dot {f : Addr} {fd : FuncData} (F : Fun K "dot" "dot" s_dot f fd) (D_add : Dn P w K mg base CX0 2 "add" (sp_add K)) (D_mul : Dn P w K mg base CX0 2 "mul" (sp_mul K)) (m_zip : mg "zip" = none) : FnOk P w K mg base CX0 3 f fd ["a", "b"] (sp_dot K) := by
  refine F.ok sc_dot (fun vs H Q E h => ?_) (fun cdv A outer s H vs Q E hr h => ?_)
  · obtain ⟨a, b, rs, ss, B, rfl, _⟩ := h
    rfl
  · refine ⟨_, (pss_cons (ps_set (i := 2) sc_dot.nd rfl (Or.inl rfl) (pe_tup (pa_cons pe_int (pa_cons pe_int pa_nil))))
      (pss_cons (ps_for PassesOwn.never rfl (pi_zip (by rfl) m_zip (pa_cons (pv 0) (pa_cons (pv 1) pa_nil))) (pg_tup rfl (pgs_cons (pg_name (i := 3) sc_dot.nd rfl (Or.inl rfl)) (pgs_cons (pg_name (i := 4) sc_dot.nd rfl (Or.inl rfl)) pgs_nil)))
      (pss_one (ps_set (i := 2) sc_dot.nd rfl (Or.inl rfl) (pe_d D_add hr (by decide) (by rfl) pass0 (pa_cons (pv 2) (pa_cons (pe_d D_mul hr (by decide) (by rfl) pass0 (pa_cons (pv 3) (pa_cons (pv 4) pa_nil))) pa_nil))))))
      (pss_one (ps_ret (pv 2))))), ?_⟩
    obtain ⟨a, b, rs, ss, B, rfl, hA, hB, hl, zr, zs, hz, Z⟩ := h
    obtain ⟨as, sA, fA⟩ := hA
    obtain ⟨bs, sB, fB⟩ := hB
    refine ⟨by show 2 ≤ sizeLine; decide, fun t0 n0 => ?_⟩
    have s0 : Same H (upd H t0 (.tup [.int 0, .int 1])) := same_upd n0
    refine ⟨_, rfl, _, rfl, a, b, as.map V.ref, bs.map V.ref, rfl, s0.seq sA, s0.seq sB, ?_⟩
    refine RZ.for_zipL (by rw [List.length_map, List.length_map, fA.1, fB.1, hl]) (fun i σ H2 => Same H H2 ∧ ∃ (t : Addr) (y3 y4 : Option V), H t = none ∧ σ = [some (.ref a), some (.ref b), some (.ref t), y3, y4] ∧ IsF K H2 t (dotR (rs.take i) (ss.take i)) ∧ Sz (1 + i * (2 * B + 1)) (dotR (rs.take i) (ss.take i))) ⟨s0, t0, _, _, n0, rfl, ?_, ?_⟩ (fun i σ H2 hP => ⟨hP.1.seq sA, hP.1.seq sB⟩) ?_ ?_
    · rw [List.take_zero, List.take_zero]
      exact SqT.of upd_same
    · rw [List.take_zero, List.take_zero]
      exact sz_zero.mono (by omega)
    · rintro i x y T σ H2 hx hy ⟨s2, t, y3, y4, nt, rfl, ht, zt⟩ nT
      obtain ⟨p, r, rfl, _, er, hp, hi⟩ := (fA.same s2).of hx
      obtain ⟨q, s, rfl, _, es, hq, hi2⟩ := (fB.same s2).of hy
      have sr := zr r (List.mem_of_getElem? er)
      have ss' := zs s (List.mem_of_getElem? es)
      have hmul : (i + 1) * (2 * B + 1) ≤ rs.length * (2 * B + 1) := Nat.mul_le_mul_right _ hi
      have hi0 : (i + 1) * (2 * B + 1) = i * (2 * B + 1) + (2 * B + 1) := Nat.succ_mul _ _
      have sT : Same H2 (upd H2 T (.tup [.ref p, .ref q])) := same_upd nT
      refine ⟨T, [.ref p, .ref q], rfl, SqT.of upd_same, rfl, .ref p, [.ref q], rfl, .ref q, [], rfl, rfl, ?_⟩
      refine ⟨_, rfl, _, rfl, _, rfl, _, _, r, s, rfl, hp.same sT, hq.same sT, sr.mono (by omega), ss'.mono (by omega), fun H3 m s3 nm hm => ?_⟩
      have szm : Sz (2 * B) (r * s) := (sr.mul ss').mono (by omega)
      refine ⟨_, _, _, _, rfl, (ht.same sT).same s3, hm, zt.mono (by omega), szm.mono (by omega), fun H4 u s4 nu hu => ?_⟩
      have sAll := s2.trans (sT.trans (s3.trans s4))
      refine ⟨sAll, u, _, _, (s2.trans (sT.trans s3)).free nu, rfl, ?_, ?_⟩
      · rw [dotR_take rs ss i r s er es]
        exact hu
      · rw [dotR_take rs ss i r s er es]
        exact (zt.add szm).mono (by omega)
    · rintro σ H2 ⟨s2, t, y3, y4, nt, rfl, ht, zt⟩
      refine ⟨_, rfl, Z _ _ s2 nt ?_⟩
      rw [List.length_map, fA.1] at ht
      rw [List.take_of_length_le (Nat.le_refl _), List.take_of_length_le (by omega)] at ht
      exact ht
theorem ok_cost {f : Addr} {fd : FuncData} (F : Fun K "cost" "cost" s_cost f fd) (D_dot : Dn P w K mg base CX0 3 "dot" (sp_dot K)) : FnOk P w K mg base CX0 4 f fd ["prices", "amounts"] (sp_cost K) := by
  refine F.ok sc_cost (fun vs H Q E h => ?_) (fun cdv A outer s H vs Q E hr h => ?_)
  · obtain ⟨a, b, rs, ss, B, rfl, _⟩ := h
    rfl
  · refine ⟨_, (pss_one (ps_ret (pe_d D_dot hr (by decide) (by rfl) pass0 (pa_cons (pv 0) (pa_cons (pv 1) pa_nil))))), ?_⟩
    obtain ⟨a, b, rs, ss, B, rfl, h⟩ := h
    exact ⟨_, rfl, _, rfl, a, b, rs, ss, B, rfl, h⟩
theorem ok_spent {f : Addr} {fd : FuncData} (F : Fun K "spent" "spent" s_spent f fd) (D_cost : Dn P w K mg base CX0 4 "cost" (sp_cost K)) : FnOk P w K mg base CX0 5 f fd ["data", "i"] (sp_spent K) := by
  refine F.ok sc_spent (fun vs H Q E h => ?_) (fun cdv A outer s H vs Q E hr h => ?_)
  · obtain ⟨a, g, bs, ls, i, b, rfl, _⟩ := h
    rfl
  · refine ⟨_, (pss_cons (ps_asg (pe_ix ix_list (pe_fld (pv 0) rfl) (pv 1) (fun _ _ => rfl)) (pg_tup rfl (pgs_cons (pg_name (i := 2) sc_spent.nd rfl (Or.inl rfl)) (pgs_cons (pg_name (i := 3) sc_spent.nd rfl (Or.inl rfl)) pgs_nil))))
      (pss_one (ps_ret (pe_d D_cost hr (by decide) (by rfl) pass0 (pa_cons (pv 2) (pa_cons (pv 3) pa_nil)))))), ?_⟩
    obtain ⟨a, g, bs, ls, i, b, rfl, hD, eb, ob, g8, Z⟩ := h
    obtain ⟨_, v, w, ⟨C, dx, fs, h1, cl, na, lk⟩, hv, _⟩ := hD
    obtain ⟨c, xs, t, p, q, rfl, sA, ax, ht, hp, hq⟩ := buys_get hv eb
    have l1 := ob.l1
    have l2 := ob.l2
    refine ⟨_, rfl, a, C, dx, fs, _, rfl, h1, cl, na, lk, _, rfl, _, _, _, _, rfl, rfl, sA, ax, ?_⟩
    refine ⟨t, _, rfl, ht, rfl, _, _, rfl, _, _, rfl, rfl, ?_⟩
    exact ⟨_, rfl, _, rfl, p, q, b.1, b.2, 80, rfl, hp, hq, by omega, (fun r hr => (ob.p r hr).2.mono (by decide)), (fun r hr => (ob.a r hr).2), by omega, Z⟩
theorem ok_at_most {f : Addr} {fd : FuncData} (F : Fun K "at_most" "at_most" s_at_most f fd) : FnOk P w K mg base CX0 1 f fd ["a", "b"] (sp_at_most K) := by
  refine F.ok sc_at_most (fun vs H Q E h => ?_) (fun cdv A outer s H vs Q E hr h => ?_)
  · obtain ⟨a, b, r, s, rfl, _⟩ := h
    rfl
  · refine ⟨_, (pss_one (ps_ret (pe_cmpR op_le (pe_op op_mulG (pe_ix ix_tup (pv 0) pe_int (fun _ _ => rfl)) (pe_ix ix_tup (pv 1) pe_int (fun _ _ => rfl))) (pe_op op_mulG (pe_ix ix_tup (pv 1) pe_int (fun _ _ => rfl)) (pe_ix ix_tup (pv 0) pe_int (fun _ _ => rfl))) (nomark _)))), ?_⟩
    obtain ⟨a, b, r, s, rfl, ha, hb, sr, ss, Z⟩ := h
    refine ⟨_, rfl, _, _, _, _, rfl, rfl, ha, rfl, _, rfl, _, _, _, _, rfl, rfl, hb, rfl, _, _, rfl, rfl, mulG_b sr.1 ss.den (by decide), ?_⟩
    refine ⟨_, rfl, _, _, _, _, rfl, rfl, hb, rfl, _, rfl, _, _, _, _, rfl, rfl, ha, rfl, _, _, rfl, rfl, mulG_b ss.1 sr.den (by decide), _, _, rfl, rfl, ?_⟩
    rw [show decide (r ≤ s) = decide (r.num * (s.den : Int) ≤ s.num * (r.den : Int)) from decide_eq_decide.mpr (Rat.le_iff r s)] at Z
    exact Z
theorem ok_less {f : Addr} {fd : FuncData} (F : Fun K "less" "less" s_less f fd) : FnOk P w K mg base CX0 1 f fd ["a", "b"] (sp_less K) := by
  refine F.ok sc_less (fun vs H Q E h => ?_) (fun cdv A outer s H vs Q E hr h => ?_)
  · obtain ⟨a, b, r, s, rfl, _⟩ := h
    rfl
  · refine ⟨_, (pss_one (ps_ret (pe_cmpR op_lt (pe_op op_mulG (pe_ix ix_tup (pv 0) pe_int (fun _ _ => rfl)) (pe_ix ix_tup (pv 1) pe_int (fun _ _ => rfl))) (pe_op op_mulG (pe_ix ix_tup (pv 1) pe_int (fun _ _ => rfl)) (pe_ix ix_tup (pv 0) pe_int (fun _ _ => rfl))) (nomark _)))), ?_⟩
    obtain ⟨a, b, r, s, rfl, ha, hb, sr, ss, Z⟩ := h
    refine ⟨_, rfl, _, _, _, _, rfl, rfl, ha, rfl, _, rfl, _, _, _, _, rfl, rfl, hb, rfl, _, _, rfl, rfl, mulG_b sr.1 ss.den (by decide), ?_⟩
    refine ⟨_, rfl, _, _, _, _, rfl, rfl, hb, rfl, _, rfl, _, _, _, _, rfl, rfl, ha, rfl, _, _, rfl, rfl, mulG_b ss.1 sr.den (by decide), _, _, rfl, rfl, ?_⟩
    rw [show decide (r < s) = decide (r.num * (s.den : Int) < s.num * (r.den : Int)) from decide_eq_decide.mpr (Rat.lt_iff r s)] at Z
    exact Z
theorem ok_step {f : Addr} {fd : FuncData} (F : Fun K "step" "step" s_step f fd) (D_cost : Dn P w K mg base CX0 4 "cost" (sp_cost K)) (D_spent : Dn P w K mg base CX0 5 "spent" (sp_spent K)) (D_at_most : Dn P w K mg base CX0 1 "at_most" (sp_at_most K)) (D_less : Dn P w K mg base CX0 1 "less" (sp_less K)) : FnOk P w K mg base CX0 6 f fd ["data", "i", "j"] (sp_step K) := by
  refine F.ok sc_step (fun vs H Q E h => ?_) (fun cdv A outer s H vs Q E hr h => ?_)
  · obtain ⟨a, g, bs, ls, i, j, rfl, _⟩ := h
    rfl
  · refine ⟨_, (pss_cons (ps_set (i := 3) sc_step.nd rfl (Or.inl rfl) pe_non)
      (C8.pss_cut (ps_if (pt_cmpR op_ne (pv 1) (pv 2) (nomark _))
      (pss_cons (ps_set (i := 4) sc_step.nd rfl (Or.inl rfl) (pe_d D_cost hr (by decide) (by rfl) pass0 (pa_cons (pe_ix ix_tup (pe_ix ix_list (pe_fld (pv 0) rfl) (pv 1) (fun _ _ => rfl)) pe_int (fun _ _ => rfl)) (pa_cons (pe_ix ix_tup (pe_ix ix_list (pe_fld (pv 0) rfl) (pv 2) (fun _ _ => rfl)) pe_int (fun _ _ => rfl)) pa_nil))))
      (pss_cons (ps_set (i := 5) sc_step.nd rfl (Or.inl rfl) (pe_d D_spent hr (by decide) (by rfl) pass0 (pa_cons (pv 0) (pa_cons (pv 1) pa_nil))))
      (pss_one (ps_if (pt_val (pe_d D_at_most hr (by decide) (by rfl) pass0 (pa_cons (pv 4) (pa_cons (pv 5) pa_nil))))
      (pss_one (ps_set (i := 3) sc_step.nd rfl (Or.inl rfl) (pe_d D_less hr (by decide) (by rfl) pass0 (pa_cons (pv 4) (pa_cons (pv 5) pa_nil)))))
      pss_nil))))
      pss_nil)
      (pss_cons (ps_for PassesOwn.never rfl (pi_list (pe_fld (pv 0) rfl)) (pg_tup rfl (pgs_cons (pg_name (i := 6) sc_step.nd rfl (Or.inl rfl)) (pgs_cons (pg_name (i := 7) sc_step.nd rfl (Or.inl rfl)) (pgs_cons (pg_name (i := 8) sc_step.nd rfl (Or.inl rfl)) pgs_nil))))
      (pss_one (ps_if (PW.pt (pw_and (pt_cmpR op_eq (pv 6) (pv 1) (nomark _)) (pw_and1 (pt_cmpR op_eq (pv 7) (pv 2) (nomark _)))))
      (pss_one (ps_set (i := 3) sc_step.nd rfl (Or.inl rfl) (pe_or (pv 8) (pe_one (pe_cmpR op_isBN (pv 3) pe_bl (nomark _))))))
      pss_nil)))
      (pss_one (ps_ret (pv 3)))))), ?_⟩
    obtain ⟨a, g, bs, ls, i, j, rfl, hD, g4, ok, hi, hj, Z⟩ := h
    obtain ⟨hg, v, w, ⟨C, dx, fs, h1, cl, na, lk⟩, hB, ⟨C3, dx3, fs3, h3, cl3, na3, lk3⟩, hL⟩ := id hD
    have ei : bs[i]? = some bs[i] := List.getElem?_eq_getElem hi
    have ej : bs[j]? = some bs[j] := List.getElem?_eq_getElem hj
    have oi := ok _ (List.getElem_mem hi)
    have oj := ok _ (List.getElem_mem hj)
    refine ⟨fun σ H1 => Same H H1 ∧ ∃ y4 y5 : Option V, σ = [some (.ref a), some (.int (i : Int)), some (.int (j : Int)), some (opV (baseR bs i j)), y4, y5, none, none, none], ?_, ?_⟩
    · refine ⟨_, rfl, _, rfl, rfl, _, rfl, ite2 (fun e => ?_) (fun e => ?_)⟩
      · have hne : i ≠ j := fun z => by
          rw [z] at e
          exact absurd e (by simp)
        obtain ⟨c, xs, t, p, q, ec, sA, ax, ht, hp, hq⟩ := buys_get hB ei
        obtain ⟨c', xs', t', p', q', ec', sA', ax', ht', hp', hq'⟩ := buys_get hB ej
        subst ec
        refine ⟨_, rfl, a, C, dx, fs, _, rfl, h1, cl, na, lk, _, rfl, _, _, _, _, rfl, rfl, sA, ax, _, _, _, _, rfl, rfl, ht, rfl, ?_⟩
        refine ⟨_, rfl, a, C, dx, fs, _, rfl, h1, cl, na, lk, _, rfl, _, _, _, _, ec', rfl, sA', ax', _, _, _, _, rfl, rfl, ht', rfl, ?_⟩
        refine ⟨p, q', bs[i].1, bs[j].2, 80, rfl, hp, hq', by rw [oi.l1, oj.l2], (fun r hr => (oi.p r hr).2.mono (by decide)), (fun r hr => (oj.a r hr).2), by rw [oi.l1]; omega, fun H1 m s1 nm hm => ?_⟩
        refine ⟨_, rfl, _, rfl, a, g, bs, ls, i, bs[i], rfl, hD.same s1, ei, oi, by omega, fun H2 n s2 nn hn => ?_⟩
        have hm2 := hm.same s2
        have hb : baseR bs i j = gapO (gapR bs[i] bs[j].2) := by
          unfold baseR
          rw [if_neg hne, ei, ej]
        obtain ⟨k1, k2⟩ := sub_np (a := dotR bs[i].1 bs[j].2) (b := dotR bs[i].1 bs[i].2)
        have li := oi.l1
        have z1 : Sz 4000 (dotR bs[i].1 bs[j].2) := (dotR_sz (B := 80) (fun r hr => (oi.p r hr).2.mono (by decide)) (fun r hr => (oj.a r hr).2)).mono (by omega)
        have z2 : Sz 4000 (dotR bs[i].1 bs[i].2) := (dotR_sz (B := 80) (fun r hr => (oi.p r hr).2.mono (by decide)) (fun r hr => (oi.a r hr).2)).mono (by omega)
        refine ⟨_, rfl, _, rfl, m, n, _, _, rfl, hm2, hn, z1, z2, _, rfl, ite2 (fun e2 => ?_) (fun e2 => ?_)⟩
        · refine ⟨_, rfl, _, rfl, m, n, _, _, rfl, hm2, hn, z1, z2, s1.trans s2, some (.ref m), some (.ref n), ?_⟩
          have e3 : gapR bs[i] bs[j].2 ≤ 0 := k1.mpr (of_decide_eq_true e2)
          rw [hb, gapO, if_pos e3, show decide (gapR bs[i] bs[j].2 < 0) = decide (dotR bs[i].1 bs[j].2 < dotR bs[i].1 bs[i].2) from decide_eq_decide.mpr k2]
          rfl
        · refine ⟨s1.trans s2, some (.ref m), some (.ref n), ?_⟩
          have e3 : ¬ gapR bs[i] bs[j].2 ≤ 0 := fun z => e2 (decide_eq_true (k1.mp z))
          rw [hb, gapO, if_neg e3]
          rfl
      · refine ⟨Same.refl _, none, none, ?_⟩
        have he : i = j := by
          by_cases z : i = j
          · exact z
          · refine absurd ?_ e
            rw [decide_eq_false (fun y => z (by have := V.int.inj y; omega))]
            rfl
        unfold baseR
        rw [if_pos he]
        rfl
    rintro σ H1 ⟨s1, y4, y5, rfl⟩
    obtain ⟨b, xs, ec, sL, hx⟩ := dp_lst (dp_same s1 hL)
    subst ec
    refine ⟨_, rfl, a, C3, dx3, fs3, _, rfl, s1 _ _ h3, cl3, na3, lk3, b, rfl, ⟨_, sL⟩, ?_⟩
    refine for_list (K := K) (a := b) (xs := xs) (fun k σ H2 => Same H1 H2 ∧ ∃ y4 y5 y6 y7 y8 : Option V, σ = [some (.ref a), some (.int (i : Int)), some (.int (j : Int)), some (opV ((ls.take k).foldl (linkR i j) (baseR bs i j))), y4, y5, y6, y7, y8]) ⟨Same.refl _, _, _, _, _, _, rfl⟩ (fun k σ H2 _ h => h.1.seq sL) ?_ ?_
    · rintro k x σ H2 hk ⟨s2, y4, y5, y6, y7, y8, rfl⟩
      obtain ⟨d, hd, hdx⟩ := dpa_got hx hk
      rw [List.getElem?_map] at hd
      cases el : ls[k]? with
      | none => rw [el] at hd; cases hd
      | some l =>
        rw [el] at hd
        cases Option.some.inj hd
        obtain ⟨t, zs, rfl, ht, hz⟩ := dp_tup (dp_same s2 hdx)
        obtain ⟨z1, z2, z3, rfl, g1, g2, g3⟩ := dpa_three hz
        cases dp_int g1
        cases dp_int g2
        cases dp_bl g3
        have step : (ls.take (k + 1)).foldl (linkR i j) (baseR bs i j) = linkR i j ((ls.take k).foldl (linkR i j) (baseR bs i j)) l := by
          rw [List.take_add_one, el, List.foldl_append]
          rfl
        have no : ¬ (l.1 = i ∧ l.2.1 = j) → opV ((ls.take k).foldl (linkR i j) (baseR bs i j)) = opV ((ls.take (k + 1)).foldl (linkR i j) (baseR bs i j)) := fun z => by
          rw [step]
          unfold linkR
          rw [if_neg z]
        refine ⟨t, _, rfl, ht, rfl, _, _, rfl, _, _, rfl, _, _, rfl, rfl, ?_⟩
        refine ⟨_, rfl, _, rfl, rfl, _, rfl, ite2 (fun e1 => ?_) (fun e1 => ?_)⟩
        · have q1 : l.1 = i := by have := V.int.inj (of_decide_eq_true e1); omega
          refine ⟨_, rfl, _, rfl, rfl, _, rfl, ite2 (fun e2 => ?_) (fun e2 => ?_)⟩
          · have q2 : l.2.1 = j := by have := V.int.inj (of_decide_eq_true e2); omega
            have yes : opV ((ls.take (k + 1)).foldl (linkR i j) (baseR bs i j)) = .bl (l.2.2 || decide ((ls.take k).foldl (linkR i j) (baseR bs i j) = some true)) := by
              rw [step]
              conv => lhs; unfold linkR
              rw [if_pos ⟨q1, q2⟩]
              rfl
            rw [yes]
            generalize (ls.take k).foldl (linkR i j) (baseR bs i j) = o
            obtain ⟨l1, l2, st⟩ := l
            cases st with
            | true => exact ⟨_, rfl, true, rfl, s2, _, _, _, _, _, rfl⟩
            | false =>
              refine ⟨_, rfl, false, rfl, _, rfl, true, rfl, ?_, s2, y4, y5, some (.int (l1 : Int)), some (.int (l2 : Int)), some (.bl false), ?_⟩
              · cases o with
                | none => exact .inl rfl
                | some b => exact .inr ⟨b, rfl⟩
              · cases o with
                | none => rfl
                | some b => cases b <;> rfl
          · refine ⟨s2, y4, y5, some (.int (l.1 : Int)), some (.int (l.2.1 : Int)), some (.bl l.2.2), ?_⟩
            rw [← no fun z => e2 (decide_eq_true (by rw [z.2]))]
            rfl
        · refine ⟨s2, y4, y5, some (.int (l.1 : Int)), some (.int (l.2.1 : Int)), some (.bl l.2.2), ?_⟩
          rw [← no fun z => e1 (decide_eq_true (by rw [z.1]))]
          rfl
    · rintro σ H2 ⟨s2, y4, y5, y6, y7, y8, rfl⟩
      refine ⟨_, rfl, ?_⟩
      rw [dpa_len hx, List.length_map, List.take_of_length_le (Nat.le_refl _)]
      exact Z _ (s1.trans s2)
theorem ok_judge_chain {f : Addr} {fd : FuncData} {tb_judge_chain cd_judge_chain : Addr} (F : FunT K "judge_chain" "judge_chain" s_judge_chain f fd cd_judge_chain) (TB : GxR.TabB base mg cd_judge_chain tb_judge_chain) (NT : K.lookup tb_judge_chain = none) (D_step : Dn P w K mg base CX0 6 "step" (sp_step K)) (m_len : mg "len" = none) (m_zip : mg "zip" = none) (m_any : mg "any" = none) : FnOk P w K mg base CX0 7 f fd ["data", "chain"] (sp_judge_chain K tb_judge_chain) := by
  refine F.ok sc_judge_chain (fun vs H Q E h => ?_) (fun A outer s H vs Q E hr h => ?_)
  · obtain ⟨a, g, bs, ls, l, xs, rfl, _⟩ := h
    rfl
  · refine ⟨_, (pss_cons (ps_set (i := 2) sc_judge_chain.nd rfl (Or.inr rfl) (pe_callB call_len_seq (by rfl) m_len (by decide +kernel) (pa_cons (pe_fld (pv 0) rfl) pa_nil)))
      (pss_cons (ps_if (PW.pt (pw_or (pt_cmpR op_eq (pe_callB call_len_seq (by rfl) m_len (by decide +kernel) (pa_cons (pv 1) pa_nil)) pe_int (nomark _)) (pw_or1 (pt_val (pe_anyL hr (by rfl) m_any TB rfl (gens_by rfl rfl (by decide +kernel) rfl rfl (by decide +kernel)) (pv 1) (fun _ => rfl))))))
      (pss_one (ps_ret pe_non))
      pss_nil)
      (pss_cons (ps_set (i := 3) sc_judge_chain.nd rfl (Or.inl rfl) pe_bl)
      (pss_cons (ps_for PassesOwn.never rfl (pi_zip (by rfl) m_zip (pa_cons (pv 1) (pa_cons (pe_slice sl_list (pv 1) (po_some pe_int) po_none) pa_nil))) (pg_tup rfl (pgs_cons (pg_name (i := 4) sc_judge_chain.nd rfl (Or.inl rfl)) (pgs_cons (pg_name (i := 5) sc_judge_chain.nd rfl (Or.inl rfl)) pgs_nil)))
      (pss_cons (ps_set (i := 6) sc_judge_chain.nd rfl (Or.inl rfl) (pe_d D_step hr (by decide) (by rfl) pass0 (pa_cons (pv 0) (pa_cons (pv 4) (pa_cons (pv 5) pa_nil)))))
      (pss_cons (ps_if (pt_cmpR op_isN (pv 6) pe_non (nomark _))
      (pss_one (ps_ret pe_non))
      pss_nil)
      (pss_one (ps_set (i := 3) sc_judge_chain.nd rfl (Or.inl rfl) (pe_or (pv 3) (pe_one (pv 6))))))))
      (pss_one (ps_ret (pv 3))))))), ?_⟩
    obtain ⟨a, g, bs, ls, l, xs, rfl, hD, g4, hn, ok, hl, hx, tG, Z⟩ := h
    obtain ⟨hg, v, w, ⟨C, dx, fs, h1, cl, na, lk⟩, hB, _⟩ := id hD
    obtain ⟨b, ys, rfl, sB, hy⟩ := dp_lst hB
    have ly : (ys.length : Int) = (bs.length : Int) := by rw [dpa_len hy, List.length_map]
    refine ⟨_, rfl, a, C, dx, fs, _, rfl, h1, cl, na, lk, b, _, rfl, .inl sB, ?_⟩
    rw [ly]
    refine ⟨_, rfl, l, _, rfl, .inl hl, rfl, ?_⟩
    rw [List.length_map]
    refine ⟨_, rfl, ite2 (fun e => ?_) (fun e => ?_)⟩
    · have ex : xs = [] := by
        have e' := of_decide_eq_true e
        have := V.int.inj e'
        exact List.length_eq_zero_iff.mp (by omega)
      have q := Z H (SameP.refl tG)
      rw [ex] at q
      exact q
    have hne : xs ≠ [] := fun z => by
      rw [z] at e
      exact e (by decide)
    have hcR : chainR (tabS (stepsR bs ls)) bs.length xs = if inRange bs.length xs = true then chainS (tabS (stepsR bs ls)) false xs else none := if_neg hne
    refine ⟨_, rfl, l, _, _, rfl, hl, tG, el_int (i := 2) (elt_out rfl rfl rfl) (gens_by rfl rfl (by decide +kernel) rfl rfl (by decide +kernel)) (by decide +kernel) rfl rfl rfl (let ⟨q, h, _⟩ := tG; ⟨q, h⟩), fun H1 tb1 => ?_⟩
    rw [any_trI, any_out]
    cases hin : inRange bs.length xs with
    | false =>
      refine ⟨_, rfl, iteT ?_⟩
      have q := Z H1 (SameP.tabbed tb1)
      rw [hcR, hin] at q
      exact q
    | true =>
    rw [hin, if_pos rfl] at hcR
    have p1 := SameP.tabbed tb1
    have hl1 : SqL K H1 l (xs.map V.int) := p1.cut.seq (sql_cut tG hl)
    have hD1 := (data_cut tG hD).same p1.cut
    refine ⟨_, rfl, iteF ?_⟩
    refine ⟨_, rfl, _, rfl, _, rfl, l, _, rfl, hl1, fun p np => ?_⟩
    have s2 : Same H1 (upd H1 p (.lst (cutV (xs.map V.int) (some 1) none))) := same_upd np
    have hp2 : (upd H1 p (.lst (cutV (xs.map V.int) (some 1) none))) p = some (.lst ((xs.drop 1).map V.int)) := by
      rw [upd_same, cutV_one (fun z => hne (List.map_eq_nil_iff.mp z)), List.map_drop]
    generalize upd H1 p (.lst (cutV (xs.map V.int) (some 1) none)) = H2 at s2 hp2 ⊢
    have p2 := p1.next s2
    have hl2 := s2.seq hl1
    refine ⟨l, p, xs.map V.int, (xs.drop 1).map V.int, rfl, hl2, SqL.of hp2, ?_⟩
    refine for_zipS (K := K) (a := l) (b := p) (xs := xs.map V.int) (ys := (xs.drop 1).map V.int) (by rw [List.length_map, List.length_map, List.length_drop]; omega) (fun k σ H3 => Same H2 H3 ∧ ∃ (st : Bool) (y4 y5 y6 : Option V), σ = [some (.ref a), some (.ref l), some (.int (bs.length : Int)), some (.bl st), y4, y5, y6] ∧ chainS (tabS (stepsR bs ls)) false xs = chainS (tabS (stepsR bs ls)) st (xs.drop k)) ⟨Same.refl _, false, _, _, _, rfl, rfl⟩ (fun i σ H3 h => ⟨h.1.seq hl2, h.1.seq (SqL.of hp2)⟩) ?_ ?_
    · rintro k x y T σ H3 hx' hy' ⟨s3, st, y4, y5, y6, rfl, ech⟩ nT
      rw [List.getElem?_map] at hx' hy'
      rw [List.getElem?_drop] at hy'
      have lk1 : 1 + k < xs.length := by
        cases ez : xs[1 + k]? with
        | none => rw [ez] at hy'; cases hy'
        | some z => exact (List.getElem?_eq_some_iff.mp ez).1
      obtain ⟨c, ec, lc⟩ := inRange_at hin (m := k) (by omega)
      obtain ⟨d, ed, ld⟩ := inRange_at hin lk1
      rw [ec] at hx'
      rw [ed] at hy'
      cases Option.some.inj hx'
      cases Option.some.inj hy'
      refine ⟨T, _, rfl, SqT.of upd_same, rfl, _, _, rfl, _, _, rfl, rfl, ?_⟩
      have s4 := s3.trans (same_upd (o := .tup [.int (c : Int), .int (d : Int)]) nT)
      refine ⟨_, rfl, _, rfl, _, rfl, a, g, bs, ls, c, d, rfl, hD1.same (s2.trans s4), g4, ok, lc, ld, fun H5 s5 => ?_⟩
      have st1 := chainS_drop (S := tabS (stepsR bs ls)) (st := st) (xs := xs.drop k) (x := (c : Int)) (y := (d : Int)) (by rw [List.getElem?_drop]; exact ec) (by rw [List.getElem?_drop, Nat.add_comm]; exact ed)
      rw [Int.toNat_natCast, Int.toNat_natCast, tabS_steps lc ld, ← ech, List.tail_drop] at st1
      have s45 := s4.trans s5
      cases eo : stepR bs ls c d with
      | none =>
        rw [eo] at st1
        have q := Z H5 (p2.next s45)
        rw [hcR, st1] at q
        exact ⟨_, rfl, rfl, _, rfl, iteT q⟩
      | some bo =>
        rw [eo] at st1
        refine ⟨_, rfl, rfl, _, rfl, iteF ?_⟩
        cases st with
        | true => exact ⟨_, rfl, true, rfl, s45, true, _, _, _, rfl, st1⟩
        | false => exact ⟨_, rfl, false, rfl, _, rfl, s45, bo, _, _, _, rfl, st1⟩
    · rintro σ H3 ⟨s3, st, y4, y5, y6, rfl, ech⟩
      have q := Z H3 (p2.next s3)
      rw [hcR, ech, chainS_end (by rw [List.length_map, List.length_drop, List.length_drop]; omega)] at q
      exact ⟨_, rfl, q⟩
theorem ok_law {f : Addr} {fd : FuncData} {tb_judge_chain : Addr} (F : Fun K "law" "law" s_law f fd) (D__law_data : Dn P w K mg base CX0 4 "_law_data" (sp__law_data K)) (D__law_made : Dn P w K mg base CX0 3 "_law_made" (sp__law_made K)) (D__law_steps : Dn P w K mg base CX0 4 "_law_steps" (sp__law_steps K)) (D__law_unchanged : Dn P w K mg base CX0 8 "_law_unchanged" (sp__law_unchanged K)) (D__law_list : Dn P w K mg base CX0 2 "_law_list" (sp__law_list K)) (D__law_chain : Dn P w K mg base CX0 2 "_law_chain" (sp__law_chain K)) (D__law_row : Dn P w K mg base CX0 1 "_law_row" (sp__law_row K)) (D__law_same_answer : Dn P w K mg base CX0 1 "_law_same_answer" (sp__law_same_answer K)) (D__law_same : Dn P w K mg base CX0 7 "_law_same" (sp__law_same 6 K)) (D_judge_chain : Dn P w K mg base CX0 7 "judge_chain" (sp_judge_chain K tb_judge_chain)) (m_range : mg "range" = none) (m_list : mg "list" = none) : FnOk P w K mg base CX0 9 f fd ["_law_script"] (sp_law K tb_judge_chain) := by
  refine F.ok sc_law (fun vs H Q E h => ?_) (fun cdv A outer s H vs Q E hr h => ?_)
  · obtain ⟨a, ns, rfl, _⟩ := h
    rfl
  · refine ⟨_, (pss_cons (ps_asg (pe_d D__law_data hr (by decide) (by rfl) pass0 (pa_cons (pv 0) (pa_cons pe_int (pa_cons pe_int (pa_cons pe_int pa_nil))))) (pg_tup rfl (pgs_cons (pg_name (i := 1) sc_law.nd rfl (Or.inl rfl)) (pgs_cons (pg_name (i := 2) sc_law.nd rfl (Or.inl rfl)) (pgs_cons (pg_name (i := 3) sc_law.nd rfl (Or.inl rfl)) pgs_nil)))))
      (pss_cons (ps_set (i := 4) sc_law.nd rfl (Or.inl rfl) (pe_d D__law_made hr (by decide) (by rfl) pass0 (pa_cons (pv 1) (pa_cons (pv 2) (pa_cons (pv 3) pa_nil)))))
      (pss_cons (ps_set (i := 5) sc_law.nd rfl (Or.inl rfl) (pe_d D__law_steps hr (by decide) (by rfl) pass0 (pa_cons (pv 2) (pa_cons (pv 3) pa_nil))))
      (pss_cons (ps_for PassesOwn.never rfl (pi_range2 rfl m_range (pa_cons pe_int (pa_cons pe_int pa_nil))) (pg_name (i := 6) sc_law.nd rfl (Or.inl rfl))
      (pss_cons (ps_set (i := 7) sc_law.nd rfl (Or.inl rfl) (pe_d D__law_list hr (by decide) (by rfl) pass0 (pa_cons (pe_d D__law_row hr (by decide) (by rfl) pass0 (pa_cons (pv 0) (pa_cons (pv 6) (pa_cons pe_int pa_nil)))) (pa_cons (pv 5) pa_nil))))
      (pss_cons (ps_set (i := 8) sc_law.nd rfl (Or.inl rfl) (pe_callTy call_list_of (by rfl) m_list (by decide +kernel) (pa_cons (pv 7) pa_nil)))
      (pss_cons (ps_set (i := 9) sc_law.nd rfl (Or.inl rfl) (pe_d D__law_chain hr (by decide) (by rfl) pass0 (pa_cons (pv 5) (pa_cons (pv 7) pa_nil))))
      (pss_one (ps_if (PW.pt (pw_or (pt_not (pt_val (pe_d D__law_same_answer hr (by decide) (by rfl) pass0 (pa_cons (pe_d D_judge_chain hr (by decide) (by rfl) pass0 (pa_cons (pv 4) (pa_cons (pv 8) pa_nil))) (pa_cons (pv 9) pa_nil))))) (pw_or1 (pt_not (pt_val (pe_d D__law_same hr (by decide) (by rfl) pass0 (pa_cons (pv 8) (pa_cons (pv 7) pa_nil))))))))
      (pss_one (ps_ret pe_bl))
      pss_nil))))))
      (pss_one (ps_ret (pe_d D__law_unchanged hr (by decide) (by rfl) pass0 (pa_cons (pv 4) (pa_cons (pv 1) (pa_cons (pv 2) (pa_cons (pv 3) pa_nil))))))))))), ?_⟩
    obtain ⟨a, ns, rfl, hS, _, tG, Z⟩ := h
    refine ⟨_, rfl, a, ns, 0, 6, 5, rfl, hS, by decide, by decide, fun g bs ls ok H1 v s1 hv => ?_⟩
    obtain ⟨t, xs, rfl, ht, hx⟩ := dp_tup (dp_same fresh_sub hv)
    obtain ⟨x, y, z, rfl, h1, hB, hL⟩ := dpa_three hx
    cases dp_int h1
    have lb : ∀ b ∈ bs, b.1.length ≤ 1000 ∧ b.2.length ≤ 1000 := fun b hb => by
      have o := ok.b b hb
      have := ok.g4
      exact ⟨by rw [o.l1]; omega, by rw [o.l2]; omega⟩
    have hn := ok.n
    have hm := ok.m
    have g4 := ok.g4
    refine ⟨t, _, rfl, ht, rfl, _, _, rfl, _, _, rfl, _, _, rfl, rfl, ?_⟩
    refine ⟨_, rfl, _, rfl, _, rfl, g, bs, ls, y, z, rfl, hB, hL, by omega, by omega, lb, fun H2 p s2 np hN => ?_⟩
    have hB2 := dp_same s2 hB
    have hL2 := dp_same s2 hL
    refine ⟨_, rfl, _, rfl, y, z, bs, ls, g, rfl, hB2, hL2, g4, ok.b, by omega, fun H3 v3 s3 hT' => ?_⟩
    have lST : (stepsR bs ls).length = bs.length := by unfold stepsR; rw [List.length_map, List.length_range]
    have lSR : ∀ r ∈ stepsR bs ls, r.length = (stepsR bs ls).length := fun r hr => by
      rw [lST]
      unfold stepsR at hr
      obtain ⟨i, _, rfl⟩ := List.mem_map.mp hr
      rw [List.length_map, List.length_range]
    have s03 := s1.trans (s2.trans s3)
    have t3 : GxR.TabG H3 tb_judge_chain := (SameP.of s03 tG).tab
    have hS3 := sql_cut t3 (s03.seq hS)
    have hT3 := dp_cut t3 (dp_same fresh_sub hT')
    have hD3 := data_cut t3 (hN.at.same s3)
    have hB3 := dp_cut t3 (dp_same s3 hB2)
    have hL3 := dp_cut t3 (dp_same s3 hL2)
    refine ⟨9, 17, rfl, ⟨by decide, by decide, by decide, by decide⟩, ?_⟩
    refine for_range (lo := 9) (n := 8) (fun i σ H5 => SameP tb_judge_chain H3 H5 ∧ ∃ y6 y7 y8 y9 : Option V, σ = [some (.ref a), some (.int (g : Int)), some y, some z, some (.ref p), some v3, y6, y7, y8, y9]) ⟨SameP.refl t3, _, _, _, _, rfl⟩ ?_ ?_
    · rintro i σ H5 hi ⟨p5, y6, y7, y8, y9, rfl⟩
      refine ⟨_, rfl, _, rfl, a, ns, 9 + i, 17, ?_, p5.cut.seq hS3, by decide, fun H6 r row s6 nr hrow er => ?_⟩
      · show [V.ref a, V.int (9 + (i : Int)), V.int 17] = _
        rw [show (9 + (i : Int)) = ((9 + i : Nat) : Int) by omega]
        rfl
      have p6 := p5.next s6
      refine ⟨_, rfl, r, v3, row, stepsR bs ls, rfl, SqL.of er, hrow, dp_same p6.cut hT3, by omega, lSR, fun H7 q xs s7 nq hq lx => ?_⟩
      have p7 := p6.next s7
      refine ⟨_, rfl, q, _, rfl, .inl (SqL.of hq), fun q8 n8 => ?_⟩
      have s8 : Same H7 (upd H7 q8 (.lst (xs.map V.int))) := same_upd n8
      have e8 : (upd H7 q8 (.lst (xs.map V.int))) q8 = some (.lst (xs.map V.int)) := upd_same
      generalize upd H7 q8 (.lst (xs.map V.int)) = H8 at s8 e8 ⊢
      have p8 := p7.next s8
      have hq8 := s8 _ _ hq
      refine ⟨_, rfl, _, rfl, v3, stepsR bs ls, q, xs, rfl, dp_same p8.cut hT3, lSR, by omega, SqL.of hq8, by omega, ?_⟩
      rw [lST]
      refine ⟨_, rfl, _, rfl, p, g, bs, ls, q8, xs, rfl, hD3.same p8.cut, g4, by omega, ok.b, SqL.of e8, by omega, p8.tab, fun H9 p89 => ?_⟩
      refine ⟨_, rfl, chainR (tabS (stepsR bs ls)) bs.length xs, rfl, ?_⟩
      have q9 := p89.at_ p8.tab hq8 fun _ z => nomatch z
      have e9 := p89.at_ p8.tab e8 fun _ z => nomatch z
      refine ⟨_, rfl, _, rfl, _, rfl, .ref q8, .ref q, .list (xs.map PyData.int), rfl, dp_ints (SqL.of e9), dp_ints (SqL.of q9), plain_ints (by omega), ?_⟩
      exact ⟨_, rfl, p8.trans p89, _, _, _, _, rfl⟩
    · rintro σ H5 ⟨p5, y6, y7, y8, y9, rfl⟩
      exact ⟨_, rfl, _, rfl, _, rfl, _, rfl, p, y, z, g, bs, ls, rfl, hD3.same p5.cut, dp_same p5.cut hB3, dp_same p5.cut hL3, by omega, by omega, by omega, ok.b, Z _⟩
end
theorem all_mk {l : PySem.W.OpenLaw} {w : World} {K : PySem.W.Frag} {h : Heap} {mg : Str → Option Value} {fa f1 f2 f3 f4 f5 f6 f7 f8 f9 f10 f11 f12 f13 f14 f15 f16 f17 f18 f19 f20 f21 f22 f23 f24 f25 f26 f27 f28 f29 f30 C_Data : Addr} (X : K.In h) (G : h.Ns mainGlobals mg) (hfa : mg "law" = some (.ref fa))
    {od1 an1 od2 an2 od3 an3 od4 an4 od5 an5 od6 an6 od7 an7 od8 an8 od9 an9 od10 an10 od11 an11 od12 an12 od13 an13 od14 an14 od15 an15 od16 an16 od17 an17 od18 an18 od19 an19 od20 an20 od21 an21 od22 an22 od23 an23 od24 an24 od25 an25 od26 an26 od27 an27 od28 an28 od29 an29 od30 an30 : Option Addr} {sl1 sl2 sl3 sl4 sl5 sl6 sl7 sl8 sl9 sl10 sl11 sl12 sl13 sl14 sl15 sl16 sl17 sl18 sl19 sl20 sl21 sl22 sl23 sl24 sl25 sl26 sl27 sl28 sl29 sl30 : Array (Option Value)} {oc1 kV1 dc1 pm1 ct1 cd1 oc2 kV2 dc2 pm2 ct2 cd2 oc3 kV3 dc3 pm3 ct3 cd3 oc4 kV4 dc4 pm4 ct4 cd4 oc5 kV5 dc5 pm5 ct5 cd5 oc6 kV6 dc6 pm6 ct6 cd6 oc7 kV7 dc7 pm7 ct7 cd7 oc8 kV8 dc8 pm8 ct8 cd8 oc9 kV9 dc9 pm9 ct9 cd9 oc10 kV10 dc10 pm10 ct10 cd10 oc11 kV11 dc11 pm11 ct11 cd11 oc12 kV12 dc12 pm12 ct12 cd12 oc13 kV13 dc13 pm13 ct13 cd13 oc14 kV14 dc14 pm14 ct14 cd14 oc15 kV15 dc15 pm15 ct15 cd15 oc16 kV16 dc16 pm16 ct16 cd16 oc17 kV17 dc17 pm17 ct17 cd17 oc18 kV18 dc18 pm18 ct18 cd18 oc19 kV19 dc19 pm19 ct19 cd19 oc20 kV20 dc20 pm20 ct20 cd20 oc21 kV21 dc21 pm21 ct21 cd21 oc22 kV22 dc22 pm22 ct22 cd22 oc23 kV23 dc23 pm23 ct23 cd23 oc24 kV24 dc24 pm24 ct24 cd24 oc25 kV25 dc25 pm25 ct25 cd25 oc26 kV26 dc26 pm26 ct26 cd26 oc27 kV27 dc27 pm27 ct27 cd27 oc28 kV28 dc28 pm28 ct28 cd28 oc29 kV29 dc29 pm29 ct29 oc30 kV30 dc30 pm30 ct30 cd30 : Value}
    (aC_Data : PySem.W.nsIn K mainGlobals "Data" = some (some (.ref C_Data)))
    (mk_Data : PySem.W.makesIn K C_Data = true)
    (in_Data : PySem.W.findIn K (.ref C_Data) "__init__" = some (some (.ref f7)))
    (kc_Data : PySem.W.keepIn K (.ref C_Data) = true)
    (pg_Data : PySem.W.plainGet K C_Data Str.empty = true)
    (hd_Data : PySem.W.hasDictIn K C_Data = true)
    (po_Data : PySem.W.plainOver K C_Data = true)
    (sa_Data : PySem.W.findIn K (.ref C_Data) "__setattr__" = some (some (.builtin "object.__setattr__")))
    (nA_Data_goods : PySem.W.findIn K (.ref C_Data) "goods" = some none)
    (nA_Data_buys : PySem.W.findIn K (.ref C_Data) "buys" = some none)
    (nA_Data_links : PySem.W.findIn K (.ref C_Data) "links" = some none)
    (fn7 : PySem.W.isFn K (.ref f7) = true)
    {cd_judge_chain tb_judge_chain : Addr} {oq_judge_chain : Value} {oe_judge_chain : Option Addr} {vs_judge_chain : Array Value} {sm_judge_chain : Array (Option Value)}
    (a1 : PySem.W.nsIn K mainGlobals "_law_row" = some (some (.ref f1)))
    (l1 : K.lookup f1 = some ⟨oc1, od1, .func (PySem.W.fnOf "_law_row" "_law_row" (defArgs s__law_row) (defBody s__law_row) (defScope s__law_row) .none kV1 dc1 pm1 an1 cd1 ct1), sl1⟩)
    (c1 : PySem.W.codeIn K cd1 "_law_row" = true)
    (k1 : PySem.W.keepIn K (.ref f1) = true)
    (a2 : PySem.W.nsIn K mainGlobals "_law_gcd" = some (some (.ref f2)))
    (l2 : K.lookup f2 = some ⟨oc2, od2, .func (PySem.W.fnOf "_law_gcd" "_law_gcd" (defArgs s__law_gcd) (defBody s__law_gcd) (defScope s__law_gcd) .none kV2 dc2 pm2 an2 cd2 ct2), sl2⟩)
    (c2 : PySem.W.codeIn K cd2 "_law_gcd" = true)
    (k2 : PySem.W.keepIn K (.ref f2) = true)
    (a3 : PySem.W.nsIn K mainGlobals "_law_lowest" = some (some (.ref f3)))
    (l3 : K.lookup f3 = some ⟨oc3, od3, .func (PySem.W.fnOf "_law_lowest" "_law_lowest" (defArgs s__law_lowest) (defBody s__law_lowest) (defScope s__law_lowest) .none kV3 dc3 pm3 an3 cd3 ct3), sl3⟩)
    (c3 : PySem.W.codeIn K cd3 "_law_lowest" = true)
    (k3 : PySem.W.keepIn K (.ref f3) = true)
    (a4 : PySem.W.nsIn K mainGlobals "_law_long" = some (some (.ref f4)))
    (l4 : K.lookup f4 = some ⟨oc4, od4, .func (PySem.W.fnOf "_law_long" "_law_long" (defArgs s__law_long) (defBody s__law_long) (defScope s__law_long) .none kV4 dc4 pm4 an4 cd4 ct4), sl4⟩)
    (c4 : PySem.W.codeIn K cd4 "_law_long" = true)
    (k4 : PySem.W.keepIn K (.ref f4) = true)
    (a5 : PySem.W.nsIn K mainGlobals "_law_purchase" = some (some (.ref f5)))
    (l5 : K.lookup f5 = some ⟨oc5, od5, .func (PySem.W.fnOf "_law_purchase" "_law_purchase" (defArgs s__law_purchase) (defBody s__law_purchase) (defScope s__law_purchase) .none kV5 dc5 pm5 an5 cd5 ct5), sl5⟩)
    (c5 : PySem.W.codeIn K cd5 "_law_purchase" = true)
    (k5 : PySem.W.keepIn K (.ref f5) = true)
    (a6 : PySem.W.nsIn K mainGlobals "_law_data" = some (some (.ref f6)))
    (l6 : K.lookup f6 = some ⟨oc6, od6, .func (PySem.W.fnOf "_law_data" "_law_data" (defArgs s__law_data) (defBody s__law_data) (defScope s__law_data) .none kV6 dc6 pm6 an6 cd6 ct6), sl6⟩)
    (c6 : PySem.W.codeIn K cd6 "_law_data" = true)
    (k6 : PySem.W.keepIn K (.ref f6) = true)
    (l7 : K.lookup f7 = some ⟨oc7, od7, .func (PySem.W.fnOf "__init__" "Data.__init__" (defArgs s_Data_init) (defBody s_Data_init) (defScope s_Data_init) .none kV7 dc7 pm7 an7 cd7 ct7), sl7⟩)
    (c7 : PySem.W.codeIn K cd7 "Data.__init__" = true)
    (k7 : PySem.W.keepIn K (.ref f7) = true)
    (a8 : PySem.W.nsIn K mainGlobals "_law_made" = some (some (.ref f8)))
    (l8 : K.lookup f8 = some ⟨oc8, od8, .func (PySem.W.fnOf "_law_made" "_law_made" (defArgs s__law_made) (defBody s__law_made) (defScope s__law_made) .none kV8 dc8 pm8 an8 cd8 ct8), sl8⟩)
    (c8 : PySem.W.codeIn K cd8 "_law_made" = true)
    (k8 : PySem.W.keepIn K (.ref f8) = true)
    (a9 : PySem.W.nsIn K mainGlobals "_law_dot" = some (some (.ref f9)))
    (l9 : K.lookup f9 = some ⟨oc9, od9, .func (PySem.W.fnOf "_law_dot" "_law_dot" (defArgs s__law_dot) (defBody s__law_dot) (defScope s__law_dot) .none kV9 dc9 pm9 an9 cd9 ct9), sl9⟩)
    (c9 : PySem.W.codeIn K cd9 "_law_dot" = true)
    (k9 : PySem.W.keepIn K (.ref f9) = true)
    (a10 : PySem.W.nsIn K mainGlobals "_law_gap" = some (some (.ref f10)))
    (l10 : K.lookup f10 = some ⟨oc10, od10, .func (PySem.W.fnOf "_law_gap" "_law_gap" (defArgs s__law_gap) (defBody s__law_gap) (defScope s__law_gap) .none kV10 dc10 pm10 an10 cd10 ct10), sl10⟩)
    (c10 : PySem.W.codeIn K cd10 "_law_gap" = true)
    (k10 : PySem.W.keepIn K (.ref f10) = true)
    (a11 : PySem.W.nsIn K mainGlobals "_law_step" = some (some (.ref f11)))
    (l11 : K.lookup f11 = some ⟨oc11, od11, .func (PySem.W.fnOf "_law_step" "_law_step" (defArgs s__law_step) (defBody s__law_step) (defScope s__law_step) .none kV11 dc11 pm11 an11 cd11 ct11), sl11⟩)
    (c11 : PySem.W.codeIn K cd11 "_law_step" = true)
    (k11 : PySem.W.keepIn K (.ref f11) = true)
    (a12 : PySem.W.nsIn K mainGlobals "_law_steps" = some (some (.ref f12)))
    (l12 : K.lookup f12 = some ⟨oc12, od12, .func (PySem.W.fnOf "_law_steps" "_law_steps" (defArgs s__law_steps) (defBody s__law_steps) (defScope s__law_steps) .none kV12 dc12 pm12 an12 cd12 ct12), sl12⟩)
    (c12 : PySem.W.codeIn K cd12 "_law_steps" = true)
    (k12 : PySem.W.keepIn K (.ref f12) = true)
    (a13 : PySem.W.nsIn K mainGlobals "_law_is_integer" = some (some (.ref f13)))
    (l13 : K.lookup f13 = some ⟨oc13, od13, .func (PySem.W.fnOf "_law_is_integer" "_law_is_integer" (defArgs s__law_is_integer) (defBody s__law_is_integer) (defScope s__law_is_integer) .none kV13 dc13 pm13 an13 cd13 ct13), sl13⟩)
    (c13 : PySem.W.codeIn K cd13 "_law_is_integer" = true)
    (k13 : PySem.W.keepIn K (.ref f13) = true)
    (a14 : PySem.W.nsIn K mainGlobals "_law_same" = some (some (.ref f14)))
    (l14 : K.lookup f14 = some ⟨oc14, od14, .func (PySem.W.fnOf "_law_same" "_law_same" (defArgs s__law_same) (defBody s__law_same) (defScope s__law_same) .none kV14 dc14 pm14 an14 cd14 ct14), sl14⟩)
    (c14 : PySem.W.codeIn K cd14 "_law_same" = true)
    (k14 : PySem.W.keepIn K (.ref f14) = true)
    (a15 : PySem.W.nsIn K mainGlobals "_law_unchanged" = some (some (.ref f15)))
    (l15 : K.lookup f15 = some ⟨oc15, od15, .func (PySem.W.fnOf "_law_unchanged" "_law_unchanged" (defArgs s__law_unchanged) (defBody s__law_unchanged) (defScope s__law_unchanged) .none kV15 dc15 pm15 an15 cd15 ct15), sl15⟩)
    (c15 : PySem.W.codeIn K cd15 "_law_unchanged" = true)
    (k15 : PySem.W.keepIn K (.ref f15) = true)
    (a16 : PySem.W.nsIn K mainGlobals "_law_walk" = some (some (.ref f16)))
    (l16 : K.lookup f16 = some ⟨oc16, od16, .func (PySem.W.fnOf "_law_walk" "_law_walk" (defArgs s__law_walk) (defBody s__law_walk) (defScope s__law_walk) .none kV16 dc16 pm16 an16 cd16 ct16), sl16⟩)
    (c16 : PySem.W.codeIn K cd16 "_law_walk" = true)
    (k16 : PySem.W.keepIn K (.ref f16) = true)
    (a17 : PySem.W.nsIn K mainGlobals "_law_list" = some (some (.ref f17)))
    (l17 : K.lookup f17 = some ⟨oc17, od17, .func (PySem.W.fnOf "_law_list" "_law_list" (defArgs s__law_list) (defBody s__law_list) (defScope s__law_list) .none kV17 dc17 pm17 an17 cd17 ct17), sl17⟩)
    (c17 : PySem.W.codeIn K cd17 "_law_list" = true)
    (k17 : PySem.W.keepIn K (.ref f17) = true)
    (a18 : PySem.W.nsIn K mainGlobals "_law_chain" = some (some (.ref f18)))
    (l18 : K.lookup f18 = some ⟨oc18, od18, .func (PySem.W.fnOf "_law_chain" "_law_chain" (defArgs s__law_chain) (defBody s__law_chain) (defScope s__law_chain) .none kV18 dc18 pm18 an18 cd18 ct18), sl18⟩)
    (c18 : PySem.W.codeIn K cd18 "_law_chain" = true)
    (k18 : PySem.W.keepIn K (.ref f18) = true)
    (a19 : PySem.W.nsIn K mainGlobals "_law_same_answer" = some (some (.ref f19)))
    (l19 : K.lookup f19 = some ⟨oc19, od19, .func (PySem.W.fnOf "_law_same_answer" "_law_same_answer" (defArgs s__law_same_answer) (defBody s__law_same_answer) (defScope s__law_same_answer) .none kV19 dc19 pm19 an19 cd19 ct19), sl19⟩)
    (c19 : PySem.W.codeIn K cd19 "_law_same_answer" = true)
    (k19 : PySem.W.keepIn K (.ref f19) = true)
    (a20 : PySem.W.nsIn K mainGlobals "ratio" = some (some (.ref f20)))
    (l20 : K.lookup f20 = some ⟨oc20, od20, .func (PySem.W.fnOf "ratio" "ratio" (defArgs s_ratio) (defBody s_ratio) (defScope s_ratio) .none kV20 dc20 pm20 an20 cd20 ct20), sl20⟩)
    (c20 : PySem.W.codeIn K cd20 "ratio" = true)
    (k20 : PySem.W.keepIn K (.ref f20) = true)
    (a21 : PySem.W.nsIn K mainGlobals "add" = some (some (.ref f21)))
    (l21 : K.lookup f21 = some ⟨oc21, od21, .func (PySem.W.fnOf "add" "add" (defArgs s_add) (defBody s_add) (defScope s_add) .none kV21 dc21 pm21 an21 cd21 ct21), sl21⟩)
    (c21 : PySem.W.codeIn K cd21 "add" = true)
    (k21 : PySem.W.keepIn K (.ref f21) = true)
    (a22 : PySem.W.nsIn K mainGlobals "mul" = some (some (.ref f22)))
    (l22 : K.lookup f22 = some ⟨oc22, od22, .func (PySem.W.fnOf "mul" "mul" (defArgs s_mul) (defBody s_mul) (defScope s_mul) .none kV22 dc22 pm22 an22 cd22 ct22), sl22⟩)
    (c22 : PySem.W.codeIn K cd22 "mul" = true)
    (k22 : PySem.W.keepIn K (.ref f22) = true)
    (a23 : PySem.W.nsIn K mainGlobals "dot" = some (some (.ref f23)))
    (l23 : K.lookup f23 = some ⟨oc23, od23, .func (PySem.W.fnOf "dot" "dot" (defArgs s_dot) (defBody s_dot) (defScope s_dot) .none kV23 dc23 pm23 an23 cd23 ct23), sl23⟩)
    (c23 : PySem.W.codeIn K cd23 "dot" = true)
    (k23 : PySem.W.keepIn K (.ref f23) = true)
    (a24 : PySem.W.nsIn K mainGlobals "cost" = some (some (.ref f24)))
    (l24 : K.lookup f24 = some ⟨oc24, od24, .func (PySem.W.fnOf "cost" "cost" (defArgs s_cost) (defBody s_cost) (defScope s_cost) .none kV24 dc24 pm24 an24 cd24 ct24), sl24⟩)
    (c24 : PySem.W.codeIn K cd24 "cost" = true)
    (k24 : PySem.W.keepIn K (.ref f24) = true)
    (a25 : PySem.W.nsIn K mainGlobals "spent" = some (some (.ref f25)))
    (l25 : K.lookup f25 = some ⟨oc25, od25, .func (PySem.W.fnOf "spent" "spent" (defArgs s_spent) (defBody s_spent) (defScope s_spent) .none kV25 dc25 pm25 an25 cd25 ct25), sl25⟩)
    (c25 : PySem.W.codeIn K cd25 "spent" = true)
    (k25 : PySem.W.keepIn K (.ref f25) = true)
    (a26 : PySem.W.nsIn K mainGlobals "at_most" = some (some (.ref f26)))
    (l26 : K.lookup f26 = some ⟨oc26, od26, .func (PySem.W.fnOf "at_most" "at_most" (defArgs s_at_most) (defBody s_at_most) (defScope s_at_most) .none kV26 dc26 pm26 an26 cd26 ct26), sl26⟩)
    (c26 : PySem.W.codeIn K cd26 "at_most" = true)
    (k26 : PySem.W.keepIn K (.ref f26) = true)
    (a27 : PySem.W.nsIn K mainGlobals "less" = some (some (.ref f27)))
    (l27 : K.lookup f27 = some ⟨oc27, od27, .func (PySem.W.fnOf "less" "less" (defArgs s_less) (defBody s_less) (defScope s_less) .none kV27 dc27 pm27 an27 cd27 ct27), sl27⟩)
    (c27 : PySem.W.codeIn K cd27 "less" = true)
    (k27 : PySem.W.keepIn K (.ref f27) = true)
    (a28 : PySem.W.nsIn K mainGlobals "step" = some (some (.ref f28)))
    (l28 : K.lookup f28 = some ⟨oc28, od28, .func (PySem.W.fnOf "step" "step" (defArgs s_step) (defBody s_step) (defScope s_step) .none kV28 dc28 pm28 an28 cd28 ct28), sl28⟩)
    (c28 : PySem.W.codeIn K cd28 "step" = true)
    (k28 : PySem.W.keepIn K (.ref f28) = true)
    (a29 : PySem.W.nsIn K mainGlobals "judge_chain" = some (some (.ref f29)))
    (l29 : K.lookup f29 = some ⟨oc29, od29, .func (PySem.W.fnOf "judge_chain" "judge_chain" (defArgs s_judge_chain) (defBody s_judge_chain) (defScope s_judge_chain) .none kV29 dc29 pm29 an29 (.ref cd_judge_chain) ct29), sl29⟩)
    (c29 : PySem.W.codeIn K (.ref cd_judge_chain) "judge_chain" = true)
    (k29 : PySem.W.keepIn K (.ref f29) = true)
    (a30 : PySem.W.nsIn K mainGlobals "law" = some (some (.ref f30)))
    (l30 : K.lookup f30 = some ⟨oc30, od30, .func (PySem.W.fnOf "law" "law" (defArgs s_law) (defBody s_law) (defScope s_law) .none kV30 dc30 pm30 an30 cd30 ct30), sl30⟩)
    (c30 : PySem.W.codeIn K cd30 "law" = true)
    (k30 : PySem.W.keepIn K (.ref f30) = true)
    (lc_judge_chain : K.lookup cd_judge_chain = some ⟨oq_judge_chain, oe_judge_chain, .fields vs_judge_chain, sm_judge_chain⟩)
    (ve_judge_chain : vs_judge_chain[11]? = some (.ref tb_judge_chain))
    (nt_judge_chain : K.lookup tb_judge_chain = none)
    (told_judge_chain : PySem.W.CodeHd h cd_judge_chain tb_judge_chain ∧ h.get? tb_judge_chain = some { cls := .none, data := .fields #[] })
    (z_range : PySem.W.nsIn K mainGlobals "range" = some none)
    (z_len : PySem.W.nsIn K mainGlobals "len" = some none)
    (z_int : PySem.W.nsIn K mainGlobals "int" = some none)
    (z_abs : PySem.W.nsIn K mainGlobals "abs" = some none)
    (z_max : PySem.W.nsIn K mainGlobals "max" = some none)
    (z_list : PySem.W.nsIn K mainGlobals "list" = some none)
    (z_isinstance : PySem.W.nsIn K mainGlobals "isinstance" = some none)
    (z_bool : PySem.W.nsIn K mainGlobals "bool" = some none)
    (z_tuple : PySem.W.nsIn K mainGlobals "tuple" = some none)
    (z_str : PySem.W.nsIn K mainGlobals "str" = some none)
    (z_zip : PySem.W.nsIn K mainGlobals "zip" = some none)
    (z_any : PySem.W.nsIn K mainGlobals "any" = some none)
    (z_gcd : PySem.W.nsIn K mainGlobals "gcd" = some (some (.builtin "math.gcd")))
    : LamX.LawAtS l w K CX0 9 63 "_law_script" mg fa h := by
  have e := hfa.symm.trans (PySem.W.mg_of X G a30)
  cases e
  have m_range : mg "range" = none := PySem.W.mg_none_of X G z_range
  have m_len : mg "len" = none := PySem.W.mg_none_of X G z_len
  have m_int : mg "int" = none := PySem.W.mg_none_of X G z_int
  have m_abs : mg "abs" = none := PySem.W.mg_none_of X G z_abs
  have m_max : mg "max" = none := PySem.W.mg_none_of X G z_max
  have m_list : mg "list" = none := PySem.W.mg_none_of X G z_list
  have m_isinstance : mg "isinstance" = none := PySem.W.mg_none_of X G z_isinstance
  have m_bool : mg "bool" = none := PySem.W.mg_none_of X G z_bool
  have m_tuple : mg "tuple" = none := PySem.W.mg_none_of X G z_tuple
  have m_str : mg "str" = none := PySem.W.mg_none_of X G z_str
  have m_zip : mg "zip" = none := PySem.W.mg_none_of X G z_zip
  have m_any : mg "any" = none := PySem.W.mg_none_of X G z_any
  have m_gcd : mg "gcd" = some (.builtin "math.gcd") := PySem.W.mg_of X G z_gcd
  have c_Data : mg "Data" = some (.ref C_Data) := PySem.W.mg_of X G aC_Data
  have T_Data : Cls K C_Data := ⟨pg_Data, hd_Data, po_Data, sa_Data⟩
  have na_Data_goods : NoAttr K C_Data "goods" := nA_Data_goods
  have na_Data_buys : NoAttr K C_Data "buys" := nA_Data_buys
  have na_Data_links : NoAttr K C_Data "links" := nA_Data_links
  refine ⟨PySem.W.fnOf "law" "law" (defArgs s_law) (defBody s_law) (defScope s_law) .none kV30 dc30 pm30 an30 cd30 ct30, [(cd_judge_chain, tb_judge_chain)], (sp_law K tb_judge_chain), List.forall_mem_cons.mpr ⟨told_judge_chain.2, fun _ z => nomatch z⟩, List.forall_mem_cons.mpr ⟨nt_judge_chain, fun _ z => nomatch z⟩, List.forall_mem_cons.mpr ⟨told_judge_chain.1, fun _ z => nomatch z⟩, fun s v => .of_eq rfl, fun H a ns hl _ hH hS => ?_, fun base _ _ ht => ?_⟩
  · obtain ⟨e_judge_chain, _⟩ := (show H tb_judge_chain = some (.tbl #[]) ∧ True from ⟨hH _ (List.mem_cons_self), trivial⟩)
    exact ⟨a, ns, rfl, hS, hl, ⟨#[], e_judge_chain, trivial⟩, fun _ => rfl⟩
  have TB_judge_chain : GxR.TabB base mg cd_judge_chain tb_judge_chain := tabB_of (ht (cd_judge_chain, tb_judge_chain) (List.mem_cons_self))
  have F1 := fun_mk (st := s__law_row) l1 c1 k1
  have D__law_row : Dn l.prog w K mg base CX0 1 "_law_row" (sp__law_row K) := ⟨_, _, _, ok__law_row F1 m_range m_len m_int, PySem.W.mg_of X G a1, F1.kp, F1.binds (ps := ["_law_script", "_law_place", "_law_many"]) fun _ _ _ _ _ _ us hl => match us, hl with | [_, _, _], _ => rfl⟩
  have F2 := fun_mk (st := s__law_gcd) l2 c2 k2
  have D__law_gcd : Dn l.prog w K mg base CX0 1 "_law_gcd" (sp__law_gcd K) := ⟨_, _, _, ok__law_gcd F2 m_range m_int, PySem.W.mg_of X G a2, F2.kp, F2.binds (ps := ["_law_a", "_law_b"]) fun _ _ _ _ _ _ us hl => match us, hl with | [_, _], _ => rfl⟩
  have F3 := fun_mk (st := s__law_lowest) l3 c3 k3
  have D__law_lowest : Dn l.prog w K mg base CX0 2 "_law_lowest" (sp__law_lowest K) := ⟨_, _, _, ok__law_lowest F3 D__law_gcd m_abs, PySem.W.mg_of X G a3, F3.kp, F3.binds (ps := ["_law_p", "_law_q"]) fun _ _ _ _ _ _ us hl => match us, hl with | [_, _], _ => rfl⟩
  have F4 := fun_mk (st := s__law_long) l4 c4 k4
  have D__law_long : Dn l.prog w K mg base CX0 1 "_law_long" (sp__law_long K) := ⟨_, _, _, ok__law_long F4 m_range, PySem.W.mg_of X G a4, F4.kp, F4.binds (ps := ["_law_row_here", "_law_start", "_law_many"]) fun _ _ _ _ _ _ us hl => match us, hl with | [_, _, _], _ => rfl⟩
  have F5 := fun_mk (st := s__law_purchase) l5 c5 k5
  have D__law_purchase : Dn l.prog w K mg base CX0 3 "_law_purchase" (sp__law_purchase K) := ⟨_, _, _, ok__law_purchase F5 D__law_lowest D__law_long m_range m_max m_int, PySem.W.mg_of X G a5, F5.kp, F5.binds (ps := ["_law_row_here", "_law_shape", "_law_goods", "_law_kind"]) fun _ _ _ _ _ _ us hl => match us, hl with | [_, _, _, _], _ => rfl⟩
  have F6 := fun_mk (st := s__law_data) l6 c6 k6
  have D__law_data : Dn l.prog w K mg base CX0 4 "_law_data" (sp__law_data K) := ⟨_, _, _, ok__law_data F6 D__law_row D__law_purchase m_range m_int, PySem.W.mg_of X G a6, F6.kp, F6.binds (ps := ["_law_script", "_law_place", "_law_most", "_law_linked"]) fun _ _ _ _ _ _ us hl => match us, hl with | [_, _, _, _], _ => rfl⟩
  have F7 := fun_mk (st := s_Data_init) l7 c7 k7
  have M_Data : DMk l.prog w K mg base CX0 1 "Data" C_Data (sp_Data_init K C_Data) := ⟨_, _, _, ⟨mk_Data, in_Data, fn7, kc_Data⟩, ok_Data_init F7 m_list T_Data na_Data_goods na_Data_buys na_Data_links, PySem.W.mg_of X G aC_Data, F7.binds (ps := ["self", "goods", "buys", "links"]) fun _ _ _ _ _ _ us hl => match us, hl with | [_, _, _, _], _ => rfl⟩
  have F8 := fun_mk (st := s__law_made) l8 c8 k8
  have D__law_made : Dn l.prog w K mg base CX0 3 "_law_made" (sp__law_made K) := ⟨_, _, _, ok__law_made F8 m_list M_Data, PySem.W.mg_of X G a8, F8.kp, F8.binds (ps := ["_law_goods", "_law_buys", "_law_links"]) fun _ _ _ _ _ _ us hl => match us, hl with | [_, _, _], _ => rfl⟩
  have F9 := fun_mk (st := s__law_dot) l9 c9 k9
  have D__law_dot : Dn l.prog w K mg base CX0 1 "_law_dot" (sp__law_dot K) := ⟨_, _, _, ok__law_dot F9 m_range m_len, PySem.W.mg_of X G a9, F9.kp, F9.binds (ps := ["_law_a", "_law_b"]) fun _ _ _ _ _ _ us hl => match us, hl with | [_, _], _ => rfl⟩
  have F10 := fun_mk (st := s__law_gap) l10 c10 k10
  have D__law_gap : Dn l.prog w K mg base CX0 2 "_law_gap" (sp__law_gap K) := ⟨_, _, _, ok__law_gap F10 D__law_dot, PySem.W.mg_of X G a10, F10.kp, F10.binds (ps := ["_law_buys", "_law_i", "_law_basket"]) fun _ _ _ _ _ _ us hl => match us, hl with | [_, _, _], _ => rfl⟩
  have F11 := fun_mk (st := s__law_step) l11 c11 k11
  have D__law_step : Dn l.prog w K mg base CX0 3 "_law_step" (sp__law_step K) := ⟨_, _, _, ok__law_step F11 D__law_gap, PySem.W.mg_of X G a11, F11.kp, F11.binds (ps := ["_law_buys", "_law_links", "_law_i", "_law_j"]) fun _ _ _ _ _ _ us hl => match us, hl with | [_, _, _, _], _ => rfl⟩
  have F12 := fun_mk (st := s__law_steps) l12 c12 k12
  have D__law_steps : Dn l.prog w K mg base CX0 4 "_law_steps" (sp__law_steps K) := ⟨_, _, _, ok__law_steps F12 D__law_step m_range m_len, PySem.W.mg_of X G a12, F12.kp, F12.binds (ps := ["_law_buys", "_law_links"]) fun _ _ _ _ _ _ us hl => match us, hl with | [_, _], _ => rfl⟩
  have F13 := fun_mk (st := s__law_is_integer) l13 c13 k13
  have D__law_is_integer : Dn l.prog w K mg base CX0 1 "_law_is_integer" (sp__law_is_integer K) := ⟨_, _, _, ok__law_is_integer F13 m_isinstance m_int m_bool, PySem.W.mg_of X G a13, F13.kp, F13.binds (ps := ["_law_x"]) fun _ _ _ _ _ _ us hl => match us, hl with | [_], _ => rfl⟩
  have F14 := fun_mk (st := s__law_same) l14 c14 k14
  have R__law_same : ∀ n, Dn l.prog w K mg base CX0 (1 + n) "_law_same" (sp__law_same n K) := by
    intro n
    induction n with
    | zero => exact ⟨_, _, _, fnok_no (fun vs H Q E h => by obtain ⟨_, _, _, _, _, _, h, _⟩ := h; exact False.elim h), PySem.W.mg_of X G a14, F14.kp, F14.binds (ps := ["_law_actual", "_law_due"]) fun _ _ _ _ _ _ us hl => match us, hl with | [_, _], _ => rfl⟩
    | succ n ih => exact ⟨_, _, _, ok__law_same F14 D__law_is_integer ih m_isinstance m_bool m_int m_list m_tuple m_range m_str m_len, PySem.W.mg_of X G a14, F14.kp, F14.binds (ps := ["_law_actual", "_law_due"]) fun _ _ _ _ _ _ us hl => match us, hl with | [_, _], _ => rfl⟩
  have D__law_same := R__law_same 6
  have F15 := fun_mk (st := s__law_unchanged) l15 c15 k15
  have D__law_unchanged : Dn l.prog w K mg base CX0 8 "_law_unchanged" (sp__law_unchanged K) := ⟨_, _, _, ok__law_unchanged F15 D__law_same, PySem.W.mg_of X G a15, F15.kp, F15.binds (ps := ["_law_data_here", "_law_goods", "_law_buys", "_law_links"]) fun _ _ _ _ _ _ us hl => match us, hl with | [_, _, _, _], _ => rfl⟩
  have F16 := fun_mk (st := s__law_walk) l16 c16 k16
  have D__law_walk : Dn l.prog w K mg base CX0 1 "_law_walk" (sp__law_walk K) := ⟨_, _, _, ok__law_walk F16 m_len m_range m_list m_int, PySem.W.mg_of X G a16, F16.kp, F16.binds (ps := ["_law_row_here", "_law_steps_here", "_law_many"]) fun _ _ _ _ _ _ us hl => match us, hl with | [_, _, _], _ => rfl⟩
  have F17 := fun_mk (st := s__law_list) l17 c17 k17
  have D__law_list : Dn l.prog w K mg base CX0 2 "_law_list" (sp__law_list K) := ⟨_, _, _, ok__law_list F17 D__law_walk m_len m_int m_range, PySem.W.mg_of X G a17, F17.kp, F17.binds (ps := ["_law_row_here", "_law_steps_here"]) fun _ _ _ _ _ _ us hl => match us, hl with | [_, _], _ => rfl⟩
  have F18 := fun_mk (st := s__law_chain) l18 c18 k18
  have D__law_chain : Dn l.prog w K mg base CX0 2 "_law_chain" (sp__law_chain K) := ⟨_, _, _, ok__law_chain F18 D__law_is_integer m_range m_isinstance m_list m_len, PySem.W.mg_of X G a18, F18.kp, F18.binds (ps := ["_law_steps_here", "_law_chain_here"]) fun _ _ _ _ _ _ us hl => match us, hl with | [_, _], _ => rfl⟩
  have F19 := fun_mk (st := s__law_same_answer) l19 c19 k19
  have D__law_same_answer : Dn l.prog w K mg base CX0 1 "_law_same_answer" (sp__law_same_answer K) := ⟨_, _, _, ok__law_same_answer F19 m_isinstance m_bool, PySem.W.mg_of X G a19, F19.kp, F19.binds (ps := ["_law_actual", "_law_due"]) fun _ _ _ _ _ _ us hl => match us, hl with | [_, _], _ => rfl⟩
  have F20 := fun_mk (st := s_ratio) l20 c20 k20
  have D_ratio : Dn l.prog w K mg base CX0 1 "ratio" (sp_ratio K) := ⟨_, _, _, ok_ratio F20 m_gcd, PySem.W.mg_of X G a20, F20.kp, F20.binds (ps := ["p", "q"]) fun _ _ _ _ _ _ us hl => match us, hl with | [_, _], _ => rfl⟩
  have F21 := fun_mk (st := s_add) l21 c21 k21
  have D_add : Dn l.prog w K mg base CX0 2 "add" (sp_add K) := ⟨_, _, _, ok_add F21 D_ratio, PySem.W.mg_of X G a21, F21.kp, F21.binds (ps := ["a", "b"]) fun _ _ _ _ _ _ us hl => match us, hl with | [_, _], _ => rfl⟩
  have F22 := fun_mk (st := s_mul) l22 c22 k22
  have D_mul : Dn l.prog w K mg base CX0 2 "mul" (sp_mul K) := ⟨_, _, _, ok_mul F22 D_ratio, PySem.W.mg_of X G a22, F22.kp, F22.binds (ps := ["a", "b"]) fun _ _ _ _ _ _ us hl => match us, hl with | [_, _], _ => rfl⟩
  have F23 := fun_mk (st := s_dot) l23 c23 k23
  have D_dot : Dn l.prog w K mg base CX0 3 "dot" (sp_dot K) := ⟨_, _, _, ok_dot F23 D_add D_mul m_zip, PySem.W.mg_of X G a23, F23.kp, F23.binds (ps := ["a", "b"]) fun _ _ _ _ _ _ us hl => match us, hl with | [_, _], _ => rfl⟩
  have F24 := fun_mk (st := s_cost) l24 c24 k24
  have D_cost : Dn l.prog w K mg base CX0 4 "cost" (sp_cost K) := ⟨_, _, _, ok_cost F24 D_dot, PySem.W.mg_of X G a24, F24.kp, F24.binds (ps := ["prices", "amounts"]) fun _ _ _ _ _ _ us hl => match us, hl with | [_, _], _ => rfl⟩
  have F25 := fun_mk (st := s_spent) l25 c25 k25
  have D_spent : Dn l.prog w K mg base CX0 5 "spent" (sp_spent K) := ⟨_, _, _, ok_spent F25 D_cost, PySem.W.mg_of X G a25, F25.kp, F25.binds (ps := ["data", "i"]) fun _ _ _ _ _ _ us hl => match us, hl with | [_, _], _ => rfl⟩
  have F26 := fun_mk (st := s_at_most) l26 c26 k26
  have D_at_most : Dn l.prog w K mg base CX0 1 "at_most" (sp_at_most K) := ⟨_, _, _, ok_at_most F26, PySem.W.mg_of X G a26, F26.kp, F26.binds (ps := ["a", "b"]) fun _ _ _ _ _ _ us hl => match us, hl with | [_, _], _ => rfl⟩
  have F27 := fun_mk (st := s_less) l27 c27 k27
  have D_less : Dn l.prog w K mg base CX0 1 "less" (sp_less K) := ⟨_, _, _, ok_less F27, PySem.W.mg_of X G a27, F27.kp, F27.binds (ps := ["a", "b"]) fun _ _ _ _ _ _ us hl => match us, hl with | [_, _], _ => rfl⟩
  have F28 := fun_mk (st := s_step) l28 c28 k28
  have D_step : Dn l.prog w K mg base CX0 6 "step" (sp_step K) := ⟨_, _, _, ok_step F28 D_cost D_spent D_at_most D_less, PySem.W.mg_of X G a28, F28.kp, F28.binds (ps := ["data", "i", "j"]) fun _ _ _ _ _ _ us hl => match us, hl with | [_, _, _], _ => rfl⟩
  have F29 := FunT.mk' (d := s_judge_chain) l29 c29 k29
  have D_judge_chain : Dn l.prog w K mg base CX0 7 "judge_chain" (sp_judge_chain K tb_judge_chain) := ⟨_, _, _, ok_judge_chain F29 TB_judge_chain nt_judge_chain D_step m_len m_zip m_any, PySem.W.mg_of X G a29, F29.kp, F29.fn.binds (ps := ["data", "chain"]) fun _ _ _ _ _ _ us hl => match us, hl with | [_, _], _ => rfl⟩
  have F30 := fun_mk (st := s_law) l30 c30 k30
  exact ok_law F30 D__law_data D__law_made D__law_steps D__law_unchanged D__law_list D__law_chain D__law_row D__law_same_answer D__law_same D_judge_chain m_range m_list
end BB
open PySem PySem.W PyProof.Rows
set_option maxHeartbeats 0 in
theorem PySem.Challenge.cw_buybook_k17_chains_judged_holds : PySem.Challenge.rw_buybook_k17_chains_judged.Holds := by
  w_on; o_law; k_head; (case hw => w_witness2)
  k_fill
  refine BB.walk_tabs (l := PySem.Challenge.rw_buybook_k17_chains_judged) (n := 63) (k := 9) (x := "_law_script") (CX := fun _ => L2.CX0) rfl (by decide) rfl ⟨rfl, by decide, by decide⟩ (fun w h Y => PySem.W.kIn_of Y) ?F (fun _ _ _ _ _ h => h)
  case F =>
    intro w mg fa h Y KX G hmg told
    refine' BB.all_mk KX G hmg ?aC_Data ?mk_Data ?in_Data ?kc_Data ?pg_Data ?hd_Data ?po_Data ?sa_Data ?nA_Data_goods ?nA_Data_buys ?nA_Data_links ?fn7 ?a1 ?l1 ?c1 ?k1 ?a2 ?l2 ?c2 ?k2 ?a3 ?l3 ?c3 ?k3 ?a4 ?l4 ?c4 ?k4 ?a5 ?l5 ?c5 ?k5 ?a6 ?l6 ?c6 ?k6 ?l7 ?c7 ?k7 ?a8 ?l8 ?c8 ?k8 ?a9 ?l9 ?c9 ?k9 ?a10 ?l10 ?c10 ?k10 ?a11 ?l11 ?c11 ?k11 ?a12 ?l12 ?c12 ?k12 ?a13 ?l13 ?c13 ?k13 ?a14 ?l14 ?c14 ?k14 ?a15 ?l15 ?c15 ?k15 ?a16 ?l16 ?c16 ?k16 ?a17 ?l17 ?c17 ?k17 ?a18 ?l18 ?c18 ?k18 ?a19 ?l19 ?c19 ?k19 ?a20 ?l20 ?c20 ?k20 ?a21 ?l21 ?c21 ?k21 ?a22 ?l22 ?c22 ?k22 ?a23 ?l23 ?c23 ?k23 ?a24 ?l24 ?c24 ?k24 ?a25 ?l25 ?c25 ?k25 ?a26 ?l26 ?c26 ?k26 ?a27 ?l27 ?c27 ?k27 ?a28 ?l28 ?c28 ?k28 ?a29 ?l29 ?c29 ?k29 ?a30 ?l30 ?c30 ?k30 ?lc_judge_chain ?ve_judge_chain ?nt_judge_chain ?told_judge_chain ?z_range ?z_len ?z_int ?z_abs ?z_max ?z_list ?z_isinstance ?z_bool ?z_tuple ?z_str ?z_zip ?z_any ?z_gcd
    (case aC_Data => k_is); (case mk_Data => k_is); (case in_Data => k_is); (case kc_Data => k_is); (case pg_Data => k_is); (case hd_Data => k_is); (case po_Data => k_is); (case sa_Data => k_is); (case nA_Data_goods => k_is); (case nA_Data_buys => k_is); (case nA_Data_links => k_is); (case fn7 => k_is); (case a1 => k_is); (case l1 => k_is); (case c1 => k_is); (case k1 => k_is); (case a2 => k_is); (case l2 => k_is); (case c2 => k_is); (case k2 => k_is); (case a3 => k_is); (case l3 => k_is); (case c3 => k_is); (case k3 => k_is); (case a4 => k_is); (case l4 => k_is); (case c4 => k_is); (case k4 => k_is); (case a5 => k_is); (case l5 => k_is); (case c5 => k_is); (case k5 => k_is); (case a6 => k_is); (case l6 => k_is); (case c6 => k_is); (case k6 => k_is); (case l7 => k_is); (case c7 => k_is); (case k7 => k_is); (case a8 => k_is); (case l8 => k_is); (case c8 => k_is); (case k8 => k_is); (case a9 => k_is); (case l9 => k_is); (case c9 => k_is); (case k9 => k_is); (case a10 => k_is); (case l10 => k_is); (case c10 => k_is); (case k10 => k_is); (case a11 => k_is); (case l11 => k_is); (case c11 => k_is); (case k11 => k_is); (case a12 => k_is); (case l12 => k_is); (case c12 => k_is); (case k12 => k_is); (case a13 => k_is); (case l13 => k_is); (case c13 => k_is); (case k13 => k_is); (case a14 => k_is); (case l14 => k_is); (case c14 => k_is); (case k14 => k_is); (case a15 => k_is); (case l15 => k_is); (case c15 => k_is); (case k15 => k_is); (case a16 => k_is); (case l16 => k_is); (case c16 => k_is); (case k16 => k_is); (case a17 => k_is); (case l17 => k_is); (case c17 => k_is); (case k17 => k_is); (case a18 => k_is); (case l18 => k_is); (case c18 => k_is); (case k18 => k_is); (case a19 => k_is); (case l19 => k_is); (case c19 => k_is); (case k19 => k_is); (case a20 => k_is); (case l20 => k_is); (case c20 => k_is); (case k20 => k_is); (case a21 => k_is); (case l21 => k_is); (case c21 => k_is); (case k21 => k_is); (case a22 => k_is); (case l22 => k_is); (case c22 => k_is); (case k22 => k_is); (case a23 => k_is); (case l23 => k_is); (case c23 => k_is); (case k23 => k_is); (case a24 => k_is); (case l24 => k_is); (case c24 => k_is); (case k24 => k_is); (case a25 => k_is); (case l25 => k_is); (case c25 => k_is); (case k25 => k_is); (case a26 => k_is); (case l26 => k_is); (case c26 => k_is); (case k26 => k_is); (case a27 => k_is); (case l27 => k_is); (case c27 => k_is); (case k27 => k_is); (case a28 => k_is); (case l28 => k_is); (case c28 => k_is); (case k28 => k_is); (case a29 => k_is); (case l29 => k_is); (case c29 => k_is); (case k29 => k_is); (case a30 => k_is); (case l30 => k_is); (case c30 => k_is); (case k30 => k_is); (case lc_judge_chain => k_is); (case ve_judge_chain => exact rfl); (case nt_judge_chain => kernel_rfl); (case told_judge_chain => exact told "judge_chain" _ _ (by decide +kernel) (by kernel_rfl)); (case z_range => k_is); (case z_len => k_is); (case z_int => k_is); (case z_abs => k_is); (case z_max => k_is); (case z_list => k_is); (case z_isinstance => k_is); (case z_bool => k_is); (case z_tuple => k_is); (case z_str => k_is); (case z_zip => k_is); (case z_any => k_is); (case z_gcd => k_is)
