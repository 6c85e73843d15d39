import PyProof.Rows.All
import Wide.All
import OpenK.AllK
import Wide.FinOn
import PySem.Challenge.RW_buybook_k03_order_of_fractions
import HandS.ForMost
import HandS.Gcd
import HandS.Wide
import HandS.WideBits
import HandS.IsInst
import HandS.Codes
import HandS.Zip
set_option Elab.async false
set_option linter.all false
set_option maxRecDepth 100000
set_option maxHeartbeats 4000000
set_option exponentiation.threshold 300
/-! Num: fractions as rational numbers; Euclid's turns. -/
namespace BB

theorem num_mul_eq {p q : Int} (hq : q ≠ 0) : (Rat.divInt p q).num * q = p * ((Rat.divInt p q).den : Int) := by
  have h := Rat.num_divInt_den (Rat.divInt p q)
  have hd : ((Rat.divInt p q).den : Int) ≠ 0 := by
    have := (Rat.divInt p q).den_nz
    omega
  exact (Rat.divInt_eq_divInt_iff hd hq).mp h

/-- what ratio reckons -/
theorem ratio_num {p q : Int} (hq : q ≠ 0) : p.fdiv (if q < 0 then -((Nat.gcd p.natAbs q.natAbs : Nat) : Int) else ((Nat.gcd p.natAbs q.natAbs : Nat) : Int)) = (Rat.divInt p q).num := by
  have hg : 0 < Nat.gcd p.natAbs q.natAbs := Nat.gcd_pos_of_pos_right _ (by omega)
  have hdp : ((Nat.gcd p.natAbs q.natAbs : Nat) : Int) ∣ p := Int.ofNat_dvd_left.mpr (Nat.gcd_dvd_left _ _)
  rw [Rat.num_divInt]
  have e : q.gcd p = Nat.gcd p.natAbs q.natAbs := by rw [Int.gcd, Nat.gcd_comm]
  rw [e]
  obtain ⟨k, hk⟩ := hdp
  generalize hG : ((Nat.gcd p.natAbs q.natAbs : Nat) : Int) = G at *
  have hG0 : G ≠ 0 := by omega
  by_cases h : q < 0
  · rw [if_pos h, Int.sign_eq_neg_one_of_neg h, hk]
    rw [show -1 * (G * k) = G * (-k) by rw [Int.mul_neg]; omega, Int.mul_ediv_cancel_left _ hG0]
    rw [show G * k = (-G) * (-k) by rw [Int.neg_mul_neg], Int.mul_fdiv_cancel_left _ (by omega)]
  · rw [if_neg h, Int.sign_eq_one_of_pos (by omega), hk, Int.one_mul, Int.mul_ediv_cancel_left _ hG0, Int.mul_fdiv_cancel_left _ hG0]

theorem ratio_den {p q : Int} (hq : q ≠ 0) : q.fdiv (if q < 0 then -((Nat.gcd p.natAbs q.natAbs : Nat) : Int) else ((Nat.gcd p.natAbs q.natAbs : Nat) : Int)) = ((Rat.divInt p q).den : Int) := by
  have hg : 0 < Nat.gcd p.natAbs q.natAbs := Nat.gcd_pos_of_pos_right _ (by omega)
  have hdq : Nat.gcd p.natAbs q.natAbs ∣ q.natAbs := Nat.gcd_dvd_right _ _
  rw [Rat.den_divInt, if_neg hq]
  have e : q.gcd p = Nat.gcd p.natAbs q.natAbs := by rw [Int.gcd, Nat.gcd_comm]
  rw [e]
  obtain ⟨k, hk⟩ := hdq
  generalize hG : Nat.gcd p.natAbs q.natAbs = G at *
  rw [hk, Nat.mul_div_cancel_left _ hg]
  by_cases h : q < 0
  · rw [if_pos h]
    have : q = (-(G : Int)) * (k : Int) := by
      have h2 : (q.natAbs : Int) = -q := by omega
      rw [hk] at h2
      rw [Int.neg_mul, ← Int.natCast_mul]; omega
    rw [this, Int.mul_fdiv_cancel_left _ (by omega)]
  · rw [if_neg h]
    have : q = (G : Int) * (k : Int) := by
      have h2 : (q.natAbs : Int) = q := by omega
      rw [hk] at h2
      rw [← Int.natCast_mul]; omega
    rw [this, Int.mul_fdiv_cancel_left _ (by omega)]

theorem ratio_common {p q : Int} (hq : q ≠ 0) : (if q < 0 then -((Nat.gcd p.natAbs q.natAbs : Nat) : Int) else ((Nat.gcd p.natAbs q.natAbs : Nat) : Int)) ≠ 0 ∧
    (if q < 0 then -((Nat.gcd p.natAbs q.natAbs : Nat) : Int) else ((Nat.gcd p.natAbs q.natAbs : Nat) : Int)).natAbs ≤ q.natAbs := by
  have hg : 0 < Nat.gcd p.natAbs q.natAbs := Nat.gcd_pos_of_pos_right _ (by omega)
  have hl : Nat.gcd p.natAbs q.natAbs ≤ q.natAbs := Nat.le_of_dvd (by omega) (Nat.gcd_dvd_right _ _)
  split <;> omega

theorem rat_add (a b : Rat) : Rat.divInt (a.num * b.den + b.num * a.den) (a.den * b.den) = a + b := by
  rw [Rat.add_def', ← Int.natCast_mul, Rat.divInt_ofNat]
theorem rat_sub (a b : Rat) : Rat.divInt (a.num * b.den - b.num * a.den) (a.den * b.den) = a - b := by
  rw [Rat.sub_def', ← Int.natCast_mul, Rat.divInt_ofNat]
theorem rat_mul (a b : Rat) : Rat.divInt (a.num * b.num) (a.den * b.den) = a * b := by
  rw [Rat.mul_def', ← Int.natCast_mul, Rat.divInt_ofNat]
theorem rat_div (a b : Rat) : Rat.divInt (a.num * b.den) (a.den * b.num) = a / b := by
  rw [Rat.div_def, Rat.inv_def, ← Rat.divInt_mul_divInt, Rat.num_divInt_den]

/-! ### sizes -/
/-- numerator and denominator below 2 ^ n -/
def Sz (n : Nat) (r : Rat) : Prop := r.num.natAbs < 2 ^ n ∧ r.den < 2 ^ n
theorem Sz.mono {n m : Nat} {r : Rat} (h : Sz n r) (k : n ≤ m) : Sz m r :=
  ⟨Nat.lt_of_lt_of_le h.1 (Nat.pow_le_pow_right (by decide) k), Nat.lt_of_lt_of_le h.2 (Nat.pow_le_pow_right (by decide) k)⟩
theorem divInt_le {p q : Int} (hq : q ≠ 0) : (Rat.divInt p q).num.natAbs ≤ p.natAbs ∧ (Rat.divInt p q).den ≤ q.natAbs := by
  constructor
  · rw [Rat.num_divInt, Int.natAbs_ediv_of_dvd ?_]
    · rw [Int.natAbs_mul]
      have : q.sign.natAbs = 1 := Int.natAbs_sign_of_ne_zero hq
      rw [this, Nat.one_mul]
      exact Nat.div_le_self _ _
    · exact Int.dvd_mul_of_dvd_right (Int.gcd_dvd_right ..)
  · rw [Rat.den_divInt, if_neg hq]
    exact Nat.div_le_self _ _
theorem divInt_sz {p q : Int} {n : Nat} (hq : q ≠ 0) (h1 : p.natAbs < 2 ^ n) (h2 : q.natAbs < 2 ^ n) : Sz n (Rat.divInt p q) :=
  ⟨Nat.lt_of_le_of_lt (divInt_le hq).1 h1, Nat.lt_of_le_of_lt (divInt_le hq).2 h2⟩
theorem mul_lt_pow {x y a b : Nat} (h1 : x < 2 ^ a) (h2 : y < 2 ^ b) : x * y < 2 ^ (a + b) := by
  rw [Nat.pow_add]; exact Nat.mul_lt_mul'' h1 h2
theorem natAbs_mul_lt {x y : Int} {a b : Nat} (h1 : x.natAbs < 2 ^ a) (h2 : y.natAbs < 2 ^ b) : (x * y).natAbs < 2 ^ (a + b) := by
  rw [Int.natAbs_mul]; exact mul_lt_pow h1 h2
theorem natAbs_add_lt {x y : Int} {a : Nat} (h1 : x.natAbs < 2 ^ a) (h2 : y.natAbs < 2 ^ a) : (x + y).natAbs < 2 ^ (a + 1) := by
  rw [Nat.pow_succ]; omega
theorem natAbs_sub_lt {x y : Int} {a : Nat} (h1 : x.natAbs < 2 ^ a) (h2 : y.natAbs < 2 ^ a) : (x - y).natAbs < 2 ^ (a + 1) := by
  rw [Nat.pow_succ]; omega
theorem Sz.den {n : Nat} {r : Rat} (h : Sz n r) : ((r.den : Int)).natAbs < 2 ^ n := by
  have := h.2; omega
theorem den_pos (r : Rat) : (0 : Int) < (r.den : Int) := by have := r.den_nz; omega
theorem den_ne (r : Rat) : (r.den : Int) ≠ 0 := by have := r.den_nz; omega
theorem den_mul_pos (r s : Rat) : (0 : Int) < (r.den : Int) * (s.den : Int) := Int.mul_pos (den_pos r) (den_pos s)
theorem cross_lt {a b : Nat} {r s : Rat} (hr : Sz a r) (hs : Sz b s) : (r.num * (s.den : Int)).natAbs < 2 ^ (a + b) ∧ (s.num * (r.den : Int)).natAbs < 2 ^ (a + b) ∧ ((r.den : Int) * (s.den : Int)).natAbs < 2 ^ (a + b) :=
  ⟨natAbs_mul_lt hr.1 hs.den, by rw [Nat.add_comm]; exact natAbs_mul_lt hs.1 hr.den, natAbs_mul_lt hr.den hs.den⟩
theorem Sz.add {a b : Nat} {r s : Rat} (hr : Sz a r) (hs : Sz b s) : Sz (a + b + 1) (r + s) := by
  obtain ⟨h1, h2, h3⟩ := cross_lt hr hs
  rw [← rat_add]
  exact divInt_sz (Int.ne_of_gt (den_mul_pos r s)) (natAbs_add_lt h1 h2) (Nat.lt_of_lt_of_le h3 (Nat.pow_le_pow_right (by decide) (Nat.le_succ _)))
theorem Sz.sub {a b : Nat} {r s : Rat} (hr : Sz a r) (hs : Sz b s) : Sz (a + b + 1) (r - s) := by
  obtain ⟨h1, h2, h3⟩ := cross_lt hr hs
  rw [← rat_sub]
  exact divInt_sz (Int.ne_of_gt (den_mul_pos r s)) (natAbs_sub_lt h1 h2) (Nat.lt_of_lt_of_le h3 (Nat.pow_le_pow_right (by decide) (Nat.le_succ _)))
theorem Sz.mul {a b : Nat} {r s : Rat} (hr : Sz a r) (hs : Sz b s) : Sz (a + b) (r * s) := by
  rw [← rat_mul]
  exact divInt_sz (Int.ne_of_gt (den_mul_pos r s)) (natAbs_mul_lt hr.1 hs.1) (natAbs_mul_lt hr.den hs.den)
theorem Sz.neg {a : Nat} {r : Rat} (hr : Sz a r) : Sz a (-r) := ⟨by rw [Rat.neg_num, Int.natAbs_neg]; exact hr.1, by rw [Rat.neg_den]; exact hr.2⟩
theorem num_ne {r : Rat} (h : r ≠ 0) : r.num ≠ 0 := fun e => h (Rat.num_eq_zero.mp e)
theorem Sz.div {a b : Nat} {r s : Rat} (hr : Sz a r) (hs : Sz b s) (h0 : s ≠ 0) : Sz (a + b) (r / s) := by
  rw [← rat_div]
  exact divInt_sz (Int.mul_ne_zero (den_ne r) (num_ne h0)) (natAbs_mul_lt hr.1 hs.den) (natAbs_mul_lt hr.den hs.1)

/-! ### Euclid -/
/-- what stands after i turns, from a b below 2 ^ L -/
def Euc (L g i : Nat) (a b : Nat) : Prop := Nat.gcd a b = g ∧ (i % 2 = 0 → b < 2 ^ (L - i / 2)) ∧ (i % 2 = 1 → a < 2 ^ (L - i / 2) ∧ b < a)
theorem euc_start {L a b : Nat} (h : b < 2 ^ L) : Euc L (Nat.gcd a b) 0 a b := ⟨rfl, fun _ => h, fun h => by omega⟩
theorem euc_step {L g i a b : Nat} (h : Euc L g i a b) (hb : b ≠ 0) : Euc L g (i + 1) b (a % b) := by
  obtain ⟨hg, h0, h1⟩ := h
  refine ⟨?_, fun e => ?_, fun e => ?_⟩
  · rw [← hg, Nat.gcd_comm a b, Nat.gcd_rec b a, Nat.gcd_comm]
  · obtain ⟨ha, hba⟩ := h1 (by omega)
    have e1 : (i + 1) / 2 = i / 2 + 1 := by omega
    rw [e1]
    have hlt : a % b < b := Nat.mod_lt _ (by omega)
    have hle : a % b + b ≤ a := by
      have := Nat.div_add_mod a b
      have hd : 1 ≤ a / b := Nat.div_pos (by omega) (by omega)
      have : b * 1 ≤ b * (a / b) := Nat.mul_le_mul_left _ hd
      omega
    by_cases hz : L - i / 2 = 0
    · rw [hz] at ha; omega
    · rw [show L - i / 2 = (L - (i / 2 + 1)) + 1 by omega, Nat.pow_succ] at ha
      omega
  · have e1 : (i + 1) / 2 = i / 2 := by omega
    rw [e1]
    exact ⟨h0 (by omega), Nat.mod_lt _ (by omega)⟩
theorem euc_end {L g a b : Nat} (h : Euc L g (2 * L + 2) a b) : a = g := by
  obtain ⟨hg, h0, _⟩ := h
  have := h0 (by omega)
  rw [show L - (2 * L + 2) / 2 = 0 by omega] at this
  have : b = 0 := by omega
  subst this
  rw [← hg, Nat.gcd_zero_right]
theorem euc_zero {L g i a : Nat} (h : Euc L g i a 0) : a = g := by rw [← h.1, Nat.gcd_zero_right]

/-! ### rows -/
def dotR : List Rat → List Rat → Rat
  | r :: rs, s :: ss => r * s + dotR rs ss
  | _, _ => 0
theorem dotR_nil (ss : List Rat) : dotR [] ss = 0 := by cases ss <;> rfl
theorem dotR_take : ∀ (rs ss : List Rat) (i : Nat) (r s : Rat), rs[i]? = some r → ss[i]? = some s → dotR (rs.take (i + 1)) (ss.take (i + 1)) = dotR (rs.take i) (ss.take i) + r * s
  | [], _, _, _, _, h, _ => by simp at h
  | _ :: _, [], _, _, _, _, h => by simp at h
  | a :: rs, b :: ss, 0, r, s, h, h2 => by
    have e1 : a = r := Option.some.inj h
    have e2 : b = s := Option.some.inj h2
    subst e1 e2
    show a * b + dotR (rs.take 0) (ss.take 0) = dotR [] [] + a * b
    rw [List.take_zero, List.take_zero, dotR_nil]
    exact Rat.add_comm _ _
  | a :: rs, b :: ss, i + 1, r, s, h, h2 => by
    have ih := dotR_take rs ss i r s h h2
    show a * b + dotR (rs.take (i + 1)) (ss.take (i + 1)) = a * b + dotR (rs.take i) (ss.take i) + r * s
    rw [ih, Rat.add_assoc]
theorem sz_zero : Sz 1 (0 : Rat) := ⟨by decide, by decide⟩
theorem sz_one : Sz 1 (1 : Rat) := ⟨by decide, by decide⟩
theorem dotR_sz {B : Nat} : ∀ {rs ss : List Rat}, (∀ r ∈ rs, Sz B r) → (∀ s ∈ ss, Sz B s) → Sz (1 + rs.length * (2 * B + 1)) (dotR rs ss)
  | [], ss, _, _ => by rw [dotR_nil]; exact sz_zero.mono (by omega)
  | _ :: _, [], _, _ => sz_zero.mono (by omega)
  | a :: rs, b :: ss, h1, h2 => by
    have ih := dotR_sz (rs := rs) (ss := ss) (fun r hr => h1 r (List.mem_cons_of_mem _ hr)) (fun s hs => h2 s (List.mem_cons_of_mem _ hs))
    have m := (h1 a List.mem_cons_self).mul (h2 b List.mem_cons_self)
    refine (m.add ih).mono ?_
    have e : (rs.length + 1) * (2 * B + 1) = rs.length * (2 * B + 1) + (2 * B + 1) := Nat.succ_mul _ _
    rw [List.length_cons, e]
    generalize rs.length * (2 * B + 1) = n
    omega
theorem divInt_nonneg {p q : Int} (hp : 0 ≤ p) (hq : 0 < q) : 0 ≤ Rat.divInt p q := (Rat.divInt_nonneg_iff_of_pos_right hq).mpr hp
theorem divInt_pos {p q : Int} (hp : 0 < p) (hq : 0 < q) : 0 < Rat.divInt p q := by
  refine Rat.lt_of_le_of_ne (divInt_nonneg (by omega) hq) fun e => ?_
  have := num_mul_eq (p := p) (q := q) (by omega)
  rw [← e] at this
  have h2 : p = 0 := by simpa using this.symm
  omega
theorem num_pos {r : Rat} (h : 0 < r) : 0 < r.num := by
  have h1 := Rat.num_nonneg.mpr (Rat.le_of_lt h)
  have h2 : r.num ≠ 0 := num_ne fun e => by rw [e] at h; exact absurd h (by decide)
  omega
theorem num_nn {r : Rat} (h : 0 ≤ r) : 0 ≤ r.num := Rat.num_nonneg.mpr h
theorem pos_of {r : Rat} (h0 : 0 ≤ r) (h : r.num ≠ 0) : 0 < r := Rat.lt_of_le_of_ne h0 fun e => h (by rw [← e]; rfl)
theorem pow1000 (i : Nat) : 1000 ^ i ≤ 2 ^ (10 * i) := by
  rw [Nat.pow_mul]
  exact Nat.pow_le_pow_left (by decide) i
end BB

set_option maxHeartbeats 4000000
/-! Lay: short words of my own over the hand layer. -/
namespace BB
open PySem PySem.Spec PyProof.Rows L2

/-- a def of the module, by its name and its promise -/
structure Dn (P : Program) (w : World) (K : PySem.W.Frag) (mg : Str → Option Value) (base : Heap) (CX : CXT) (k : Nat) (x : Str) (sp : Sp) : Prop where
  ex : ∃ (f : Addr) (fd : FuncData) (ps : List Str), FnOk P w K mg base CX k f fd ps sp ∧ mg x = some (.ref f) ∧ PySem.W.keepIn K (.ref f) = true ∧ Binds K fd ps []

section
variable {X : Cx} {CX : CXT} {x : Str} {p pos : Pos} {e : Expr} {es : List Expr} {t : TA} {sp : Sp} {k j : Nat} {E : XK}
theorem pe_d (c : Dn X.prog X.w X.K X.mg X.base CX k x sp) (hr : Room j X.A) (hk : k ≤ j) (hg : Gl X x) (hx : Passes CX X E) (ha : PA X (e :: es) t)
    (hdb : (x == ("__debug__" : Str)) = false := by decide) (he : starEach (e :: es) X.env = (false, eval e X.env) :: starEach es X.env := by rfl) (hpl : (backTo pos (starEach es X.env)).any (·.1) = false := by rfl) :
    PE X (.Call (.Name x p) (e :: es) [] pos) (tCall sp [] E t) := by
  obtain ⟨f, fd, ps, F, hm, kp, b⟩ := c.ex
  exact pe_call F (hr.mono hk) hg hm kp b .nil hx ha hdb he hpl
end

/-! ### numbers -/
def CMulG (i j : Int) : Prop := IntMulOk i j
def CDivG (_ j : Int) : Prop := j ≠ 0 ∧ j.natAbs < 2 ^ 9000
section
variable {X : Cx}
theorem op_mulG : OpR X (binaryOp .Mult) (rI CMulG fun i j => .int (i * j)) := opI fun _ _ _ _ _ _ _ hc q => mul_int q hc
theorem op_fdivG : OpR X (binaryOp .FloorDiv) (rI CDivG fun i j => .int (i.fdiv j)) := opI fun _ j _ _ _ _ _ hc q =>
  floordiv_int hc.1 q (.inl (PyProof.noPylong_of_log2 (PySem.Flt.log2_lt_of (by decide) hc.2)))
end
theorem mulG_l {i j : Int} (h : i.natAbs < 2 ^ 60) : CMulG i j := (show CMul i j from .inl ⟨by omega, by omega⟩).ok
theorem mulG_r {i j : Int} (h : j.natAbs < 2 ^ 60) : CMulG i j := (show CMul i j from .inr ⟨by omega, by omega⟩).ok
theorem mulG_b {i j : Int} {a b : Nat} (ha : i.natAbs < 2 ^ a) (hb : j.natAbs < 2 ^ b) (h : a + b ≤ 134217728) : CMulG i j := (mulx_ok ha hb h).ok

theorem bits_lt {n L : Nat} (h : Builtin.Int.intBits (n : Int) = L) : n < 2 ^ L := by
  unfold Builtin.Int.intBits at h
  split at h
  · rename_i z
    have : n = 0 := by
      have := eq_of_beq z
      omega
    subst this
    exact Nat.pow_pos (by decide)
  · subst h
    rw [Int.natAbs_natCast]
    exact Nat.lt_log2_self
theorem bits_le {n m : Nat} (h : n < 2 ^ m) : Builtin.Int.intBits (n : Int) ≤ m + 1 := by
  unfold Builtin.Int.intBits
  split
  · omega
  · rename_i z
    rw [Int.natAbs_natCast]
    by_cases h0 : n = 0
    · subst h0; simp at z
    · have := (Nat.log2_lt h0).mpr h
      omega

/-! ### sequences, as they stand -/
theorem sqt_upd {K : PySem.W.Frag} {H : Hp} {a p : Addr} {xs : List V} {o : HO} (hp : H p = none) (h : SqT K H a xs) : SqT K (upd H p o) a xs := by
  rcases h with (h | ⟨o', h⟩) | h
  · exact .inl (.inl (by rw [upd_ne (ne_of_none h hp)]; exact h))
  · exact .inl (.inr ⟨o', by rw [upd_ne (ne_of_none h hp)]; exact h⟩)
  · exact .inr h
theorem sql_upd {K : PySem.W.Frag} {H : Hp} {a p : Addr} {xs : List V} {o : HO} (hp : H p = none) (h : SqL K H a xs) : SqL K (upd H p o) a xs := by
  rcases h with (h | ⟨o', h⟩) | h
  · exact .inl (.inl (by rw [upd_ne (ne_of_none h hp)]; exact h))
  · exact .inl (.inr ⟨o', by rw [upd_ne (ne_of_none h hp)]; exact h⟩)
  · exact .inr h
theorem sqt_same {K : PySem.W.Frag} {H H' : Hp} {a : Addr} {xs : List V} (e : Same H H') (h : SqT K H a xs) : SqT K H' a xs := by
  rcases h with (h | ⟨o', h⟩) | h
  · exact .inl (.inl (e _ _ h))
  · exact .inl (.inr ⟨o', e _ _ h⟩)
  · exact .inr h
theorem same_upd {H : Hp} {p : Addr} {o : HO} (h : H p = none) : Same H (upd H p o) := fun b x e => by
  rw [upd_ne (ne_of_none e h)]
  exact e
/-- a thing that H₀ did not know may change -/
theorem same_mut {H₀ H : Hp} {p : Addr} {o : HO} (e : Same H₀ H) (h : H₀ p = none) : Same H₀ (upd H p o) := fun b x z => by
  rw [upd_ne (ne_of_none z h)]
  exact e b x z
theorem none_upd {H : Hp} {p q : Addr} {o : HO} (h : (upd H p o) q = none) : H q = none ∧ q ≠ p := by
  by_cases e : q = p
  · subst e; rw [upd_same] at h; cases h
  · rw [upd_ne e] at h; exact ⟨h, e⟩

/-- a fraction that stands at a -/
def IsF (K : PySem.W.Frag) (H : Hp) (a : Addr) (r : Rat) : Prop := SqT K H a [.int r.num, .int (r.den : Int)]
/-- a new fraction -/
def rF (K : PySem.W.Frag) (H : Hp) (r : Rat) (Q : VK) : Prop := ∀ H' a, Same H H' → H a = none → IsF K H' a r → Q (.ref a) H'
theorem IsF.new {K : PySem.W.Frag} {H : Hp} {a p : Addr} {r : Rat} {o : HO} (hp : H p = none) (h : IsF K H a r) : IsF K (upd H p o) a r := sqt_upd hp h
theorem IsF.same {K : PySem.W.Frag} {H H' : Hp} {a : Addr} {r : Rat} (e : Same H H') (h : IsF K H a r) : IsF K H' a r := sqt_same e h
theorem tyT {K : PySem.W.Frag} {H : Hp} {a : Addr} {xs : List V} (h : SqT K H a xs) : TyX K H (.ref a) (.type "tuple") := by
  rcases h with (h | ⟨o', h⟩) | ⟨o, its, n, h, c, _⟩
  · exact .base (.tup h)
  · exact .fTuple h
  · exact .kTuple h c

theorem abs_nn (x : Int) : (0 : Int) ≤ (if x < 0 then -x else x) := by split <;> omega
theorem abs_na (x : Int) : (if x < 0 then -x else x).natAbs = x.natAbs := by split <;> omega
/-! ### drawn rows -/
def isRow (row : List Int) (m : Nat) : Prop := row.length = m ∧ ∀ v ∈ row, 0 ≤ v ∧ v < 1000
theorem isRow.snoc {row : List Int} {m : Nat} {v : Int} (h : isRow row m) (h0 : 0 ≤ v) (h1 : v < 1000) : isRow (row ++ [v]) (m + 1) := by
  refine ⟨by rw [List.length_append, h.1]; rfl, fun u hu => ?_⟩
  rcases List.mem_append.mp hu with hu | hu
  · exact h.2 u hu
  · rw [List.mem_singleton] at hu; subst hu; exact ⟨h0, h1⟩
theorem isRow.get {row : List Int} {n i : Nat} (h : isRow row n) (hi : i < n) : ∃ v, row[i]? = some v ∧ (row.map V.int)[i]? = some (.int v) ∧ 0 ≤ v ∧ v < 1000 := by
  have hl : i < row.length := by rw [h.1]; exact hi
  obtain ⟨h0, h1⟩ := h.2 _ (List.getElem_mem hl)
  exact ⟨row[i], List.getElem?_eq_getElem hl, by rw [List.getElem?_map, List.getElem?_eq_getElem hl]; rfl, h0, h1⟩
theorem isRow.at {row : List Int} {n : Nat} (h : isRow row n) (i : Nat) (hi : i < n) : ∃ v : Int, atI (row.map V.int) (i : Int) = some (.int v) ∧ 0 ≤ v ∧ v < 1000 := by
  obtain ⟨v, _, h2, h3, h4⟩ := h.get hi
  exact ⟨v, atI_nat h2, h3, h4⟩
/-- a row that grows at o -/
def RowAt (H H' : Hp) (o : Addr) (i : Nat) : Prop := H o = none ∧ Same H H' ∧ ∃ rw, isRow rw i ∧ H' o = some (.lst (rw.map V.int))
theorem RowAt.start {H : Hp} {o : Addr} (no : H o = none) : RowAt H (upd H o (.lst [])) o 0 := ⟨no, same_upd no, [], ⟨rfl, fun v hv => by cases hv⟩, upd_same⟩
theorem RowAt.push {H H' : Hp} {o : Addr} {i : Nat} {xs : List V} {z : Int} (r : RowAt H H' o i) (eo : H' o = some (.lst xs)) (h0 : 0 ≤ z) (h1 : z < 1000) : RowAt H (upd H' o (.lst (xs ++ [.int z]))) o (i + 1) := by
  obtain ⟨no, sm, rw, hr, e⟩ := r
  have e2 : xs = rw.map V.int := by
    rw [eo] at e
    exact HO.lst.inj (Option.some.inj e)
  refine ⟨no, same_mut sm no, rw ++ [z], hr.snoc h0 h1, ?_⟩
  rw [upd_same, e2, List.map_append]
  rfl

/-! ### cuts -/
theorem cut_id {D : Ends} {t u : TS} {σ : L2.St} {H : Hp} (Mid : L2.St → Hp → Prop) (h1 : t { D with nx := Mid } σ H) (h2 : ∀ σ' H', Mid σ' H' → u D σ' H') : C8.tCut t u D σ H := ⟨Mid, h1, h2⟩

/-! ### lists of fractions -/
theorem sqt_mut {K : PySem.W.Frag} {H : Hp} {a D : Addr} {xs zs : List V} {o : HO} (hD : H D = some (.lst zs)) (h : SqT K H a xs) : SqT K (upd H D o) a xs := by
  rcases h with (h | ⟨o', h⟩) | h
  · exact .inl (.inl (by rw [upd_ne (ne_of h hD (fun z => nomatch z))]; exact h))
  · exact .inl (.inr ⟨o', by rw [upd_ne (ne_of h hD (fun z => nomatch z))]; exact h⟩)
  · exact .inr h
theorem IsF.mut {K : PySem.W.Frag} {H : Hp} {a D : Addr} {r : Rat} {zs : List V} {o : HO} (hD : H D = some (.lst zs)) (h : IsF K H a r) : IsF K (upd H D o) a r := sqt_mut hD h
/-- fractions, one by one -/
def Fs (K : PySem.W.Frag) (H : Hp) (as : List Addr) (rs : List Rat) : Prop := as.length = rs.length ∧ ∀ (i : Nat) (a : Addr) (r : Rat), as[i]? = some a → rs[i]? = some r → IsF K H a r
theorem Fs.nil {K : PySem.W.Frag} {H : Hp} : Fs K H [] [] := ⟨rfl, fun i a r h _ => by simp at h⟩
theorem Fs.same {K : PySem.W.Frag} {H H' : Hp} {as : List Addr} {rs : List Rat} (e : Same H H') (h : Fs K H as rs) : Fs K H' as rs := ⟨h.1, fun i a r h1 h2 => (h.2 i a r h1 h2).same e⟩
theorem Fs.mut {K : PySem.W.Frag} {H : Hp} {D : Addr} {zs : List V} {o : HO} {as : List Addr} {rs : List Rat} (hD : H D = some (.lst zs)) (h : Fs K H as rs) : Fs K (upd H D o) as rs := ⟨h.1, fun i a r h1 h2 => (h.2 i a r h1 h2).mut hD⟩
theorem Fs.snoc {K : PySem.W.Frag} {H : Hp} {as : List Addr} {rs : List Rat} {a : Addr} {r : Rat} (h : Fs K H as rs) (x : IsF K H a r) : Fs K H (as ++ [a]) (rs ++ [r]) := by
  refine ⟨by rw [List.length_append, List.length_append, h.1]; rfl, fun i b q h1 h2 => ?_⟩
  have hl := h.1
  rcases Nat.lt_or_ge i as.length with hi | hi
  · rw [List.getElem?_append_left hi] at h1
    rw [List.getElem?_append_left (by omega)] at h2
    exact h.2 i b q h1 h2
  · rw [List.getElem?_append_right hi] at h1
    rw [List.getElem?_append_right (by omega)] at h2
    have hi2 : i - as.length = 0 := by
      have := (List.getElem?_eq_some_iff.mp h1).1
      rw [List.length_singleton] at this
      omega
    rw [hi2] at h1
    rw [show i - rs.length = 0 by omega] at h2
    have e1 : a = b := Option.some.inj h1
    have e2 : r = q := Option.some.inj h2
    rw [← e1, ← e2]
    exact x
/-- a list, at l, of these fractions -/
def FsAt (K : PySem.W.Frag) (H : Hp) (l : Addr) (rs : List Rat) : Prop := ∃ as : List Addr, SqL K H l (as.map V.ref) ∧ Fs K H as rs
theorem FsAt.same {K : PySem.W.Frag} {H H' : Hp} {l : Addr} {rs : List Rat} (e : Same H H') (h : FsAt K H l rs) : FsAt K H' l rs := let ⟨as, h1, h2⟩ := h; ⟨as, e.seq h1, h2.same e⟩
/-- the same, tracked -/
def NewFs (K : PySem.W.Frag) (H : Hp) (l : Addr) (rs : List Rat) : Prop := ∃ as : List Addr, H l = some (.lst (as.map V.ref)) ∧ Fs K H as rs
theorem NewFs.at {K : PySem.W.Frag} {H : Hp} {l : Addr} {rs : List Rat} (h : NewFs K H l rs) : FsAt K H l rs := let ⟨as, h1, h2⟩ := h; ⟨as, SqL.of h1, h2⟩
theorem NewFs.same {K : PySem.W.Frag} {H H' : Hp} {l : Addr} {rs : List Rat} (e : Same H H') (h : NewFs K H l rs) : NewFs K H' l rs := let ⟨as, h1, h2⟩ := h; ⟨as, e _ _ h1, h2.same e⟩
def rFs (K : PySem.W.Frag) (H : Hp) (rs : List Rat) (Q : VK) : Prop := ∀ H' l, Same H H' → H l = none → NewFs K H' l rs → Q (.ref l) H'
/-- its places -/
theorem Fs.get {K : PySem.W.Frag} {H : Hp} {as : List Addr} {rs : List Rat} (h : Fs K H as rs) {i : Nat} (hi : i < rs.length) : ∃ a r, as[i]? = some a ∧ (as.map V.ref)[i]? = some (.ref a) ∧ rs[i]? = some r ∧ IsF K H a r := by
  have hl : i < as.length := by rw [h.1]; exact hi
  exact ⟨as[i], rs[i], List.getElem?_eq_getElem hl, by rw [List.getElem?_map, List.getElem?_eq_getElem hl]; rfl, List.getElem?_eq_getElem hi, h.2 i _ _ (List.getElem?_eq_getElem hl) (List.getElem?_eq_getElem hi)⟩
theorem Fs.of {K : PySem.W.Frag} {H : Hp} {as : List Addr} {rs : List Rat} (h : Fs K H as rs) {i : Nat} {x : V} (hx : (as.map V.ref)[i]? = some x) : ∃ a r, x = .ref a ∧ as[i]? = some a ∧ rs[i]? = some r ∧ IsF K H a r ∧ i < rs.length := by
  have hi : i < as.length := by
    have := (List.getElem?_eq_some_iff.mp hx).1
    rw [List.length_map] at this
    exact this
  have hi2 : i < rs.length := by rw [← h.1]; exact hi
  obtain ⟨a, r, e1, e2, e3, e4⟩ := h.get hi2
  rw [hx] at e2
  exact ⟨a, r, Option.some.inj e2, e1, e3, e4, hi2⟩
/-- a list of fractions that grows at D, over H₀ -/
structure Grow (K : PySem.W.Frag) (H₀ H : Hp) (D : Addr) (rs : List Rat) : Prop where
  new : H₀ D = none
  same : Same H₀ H
  ex : NewFs K H D rs
theorem Grow.start {K : PySem.W.Frag} {H : Hp} {D : Addr} (hD : H D = none) : Grow K H (upd H D (.lst [])) D [] := ⟨hD, same_upd hD, [], upd_same, .nil⟩
theorem Grow.step {K : PySem.W.Frag} {H₀ H H1 : Hp} {D a : Addr} {rs : List Rat} {r : Rat} (g : Grow K H₀ H D rs) (s : Same H H1) (x : IsF K H1 a r) (hl : rs.length ≤ 1000) :
    ∃ acc, H1 D = some (.lst acc) ∧ acc.length < sizeLine ∧ Grow K H₀ (upd H1 D (.lst (acc ++ [.ref a]))) D (rs ++ [r]) := by
  obtain ⟨n, sm, as, e, f⟩ := g
  have e1 := s _ _ e
  refine ⟨as.map V.ref, e1, ?_, n, same_mut (sm.trans s) n, as ++ [a], ?_, ((f.same s).snoc x).mut e1⟩
  · rw [List.length_map, f.1]
    exact small1000 hl
  · rw [upd_same, List.map_append]
    rfl
theorem Grow.fs {K : PySem.W.Frag} {H₀ H : Hp} {D l : Addr} {rs ss : List Rat} (g : Grow K H₀ H D rs) (h : FsAt K H₀ l ss) : FsAt K H l ss := h.same g.same

/-- a comprehension over zip of two lists of one length -/
theorem lc_zipL {K : PySem.W.Frag} {a b : Addr} {xs ys : List V} {g : TG} {tt : TT} {te : TE} {vs : List Nat} {σ : L2.St} {H1 : Hp} {D : Addr} {Qd : Hp → Prop} (hl : xs.length = ys.length) (Pv : Nat → Hp → Prop) (h0 : Pv 0 (upd H1 D (.lst []))) (hq : ∀ i H, Pv i H → SqL K H a xs ∧ SqL K H b ys)
    (hs : ∀ (i : Nat) (x y : V) (T : Addr) (H : Hp), xs[i]? = some x → ys[i]? = some y → Pv i H → H T = none → g (.ref T) (wipe σ vs) (upd H T (.tup [x, y])) fun σ2 H2 => wipe σ2 vs = wipe σ vs ∧ tt σ2 H2 fun b H3 =>
      if b = true then te σ2 H3 fun y H4 => ∃ acc, H4 D = some (.lst acc) ∧ acc.length < sizeLine ∧ Pv (i + 1) (upd H4 D (.lst (acc ++ [y]))) else Pv (i + 1) H3) (hd : ∀ H, Pv xs.length H → Qd H) :
    ∃ W : Nat → Nat → Hp → Prop, (∃ m, W 0 m (upd H1 D (.lst []))) ∧ ∀ i m H, W i m H →
      ((Itz K a b).stop i H ∧ Qd H) ∨ ((Itz K a b).go i H ∧ ∃ Nx : Hp → Prop, (∀ H', Nx H' → ∃ m', m' < m ∧ W (i + 1) m' H') ∧ ∀ x H', (Itz K a b).yld i H x H' → g x (wipe σ vs) H' fun σ2 H2 => wipe σ2 vs = wipe σ vs ∧ tt σ2 H2 fun b H3 =>
        if b = true then te σ2 H3 fun y H4 => ∃ acc, H4 D = some (.lst acc) ∧ acc.length < sizeLine ∧ Nx (upd H4 D (.lst (acc ++ [y]))) else Nx H3) := by
  refine ⟨fun i m H => m = xs.length - i ∧ i ≤ xs.length ∧ Pv i H, ⟨xs.length, rfl, Nat.zero_le _, h0⟩, ?_⟩
  rintro i m H ⟨rfl, hi, p⟩
  obtain ⟨qx, qy⟩ := hq i H p
  by_cases hlt : i < xs.length
  · have hx : xs[i]? = some xs[i] := List.getElem?_eq_getElem hlt
    have hlt2 : i < ys.length := by omega
    have hy : ys[i]? = some ys[i] := List.getElem?_eq_getElem hlt2
    refine .inr ⟨⟨xs, ys, _, _, qx, qy, hx, hy⟩, Pv (i + 1), fun H' p' => ⟨xs.length - (i + 1), by omega, rfl, hlt, p'⟩, fun v H' y => ?_⟩
    obtain ⟨T, x', y', rfl, hT, rfl, f1, f2⟩ := y
    exact hs i x' y' T H (f1 xs qx) (f2 ys qy) p hT
  · have e : i = xs.length := by omega
    subst e
    exact .inl ⟨⟨xs, ys, qx, qy, Or.inl (Nat.le_refl _)⟩, hd H p⟩

/-! ### data, for == -/
def fD (r : Rat) : PyData := .tuple [.int r.num, .int (r.den : Int)]
theorem dp_f {K : PySem.W.Frag} {H : Hp} {a : Addr} {r : Rat} (h : IsF K H a r) : Dp K H (.ref a) (fD r) := .tup h (.cons (.int _) (.cons (.int _) .nil))
theorem dpAll_f {K : PySem.W.Frag} {H : Hp} : ∀ (as : List Addr) (rs : List Rat), Fs K H as rs → DpAll K H (as.map V.ref) (rs.map fD)
  | [], [], _ => .nil
  | [], _ :: _, h => by have := h.1; simp at this
  | _ :: _, [], h => by have := h.1; simp at this
  | a :: as, r :: rs, h => .cons (dp_f (h.2 0 a r rfl rfl)) (dpAll_f as rs ⟨by have := h.1; simp at this; exact this, fun i b q h1 h2 => h.2 (i + 1) b q h1 h2⟩)
theorem dp_fs {K : PySem.W.Frag} {H : Hp} {l : Addr} {rs : List Rat} (h : FsAt K H l rs) : Dp K H (.ref l) (.list (rs.map fD)) := let ⟨_, h1, h2⟩ := h; .lst h1 (dpAll_f _ _ h2)
theorem canLay_f : ∀ rs : List Rat, PyData.canLayAll0 (rs.map fD) = true
  | [] => rfl
  | r :: rs => by
    show (PyData.canLay0 (fD r) && PyData.canLayAll0 (rs.map fD)) = true
    rw [canLay_f rs]
    rfl
theorem depth_f : ∀ rs : List Rat, PyData.depthAll (rs.map fD) ≤ 1
  | [] => Nat.zero_le _
  | r :: rs => by
    show max (PyData.depth (fD r)) (PyData.depthAll (rs.map fD)) ≤ 1
    exact Nat.max_le.mpr ⟨Nat.le_refl 1, depth_f rs⟩
theorem shaped_fs (rs : List Rat) : SeqAt.shaped (.list (rs.map fD)) = true := by
  unfold SeqAt.shaped
  rw [show PyData.canLay0 (.list (rs.map fD)) = PyData.canLayAll0 (rs.map fD) from rfl, canLay_f, Bool.true_and]
  refine decide_eq_true ?_
  show PyData.depthAll (rs.map fD) + 1 ≤ 64
  have := depth_f rs
  omega
theorem eqv_fs (rs : List Rat) : PyData.eqv (.list (rs.map fD)) (.list (rs.map fD)) = true := SeqAt.eqv_refl _ (canLay_f rs)

/-- a text, sign by sign -/
theorem for_sgn {x : Str} {g : TG} {tb : TS} {D : Ends} {σ : L2.St} {H : Hp} (Pv : Nat → L2.St → Hp → Prop) (h0 : Pv 0 σ H)
    (turn : ∀ (i c : Nat) (σ : L2.St) (H : Hp), x.cps[i]? = some c → Pv i σ H → g (.str ⟨#[c]⟩) σ H fun σ2 H2 => tb { D with nx := Pv (i + 1), ct := Pv (i + 1), bk := D.nx } σ2 H2) (fin : ∀ σ H, Pv x.cps.size σ H → D.nx σ H) :
    ∃ W : Nat → Nat → L2.St → Hp → Prop, (∃ m, W 0 m σ H) ∧ ∀ i m σ H, W i m σ H →
      ((Its x).stop i H ∧ D.nx σ H) ∨ ((Its x).go i H ∧ ∃ N : L2.St → Hp → Prop, (∀ σ' H', N σ' H' → ∃ m', m' < m ∧ W (i + 1) m' σ' H') ∧ ∀ v H', (Its x).yld i H v H' → g v σ H' fun σ2 H2 => tb { D with nx := N, ct := N, bk := D.nx } σ2 H2) := by
  refine ⟨fun i m σ H => m + i = x.cps.size ∧ Pv i σ H, ⟨x.cps.size, rfl, h0⟩, ?_⟩
  rintro i m σ H ⟨em, p⟩
  rcases Nat.lt_or_ge i x.cps.size with hlt | hge
  · refine .inr ⟨hlt, Pv (i + 1), fun σ' H' p' => ⟨m - 1, by omega, by omega, p'⟩, ?_⟩
    rintro v H' ⟨rfl, c, hc, rfl⟩
    exact turn i c σ H' hc p
  · have e : i = x.cps.size := by omega
    subst e
    exact .inl ⟨Nat.le_refl _, fin σ H p⟩
end BB

/-! own short words of tactics -/
local macro_rules | `(tactic| walk_at "sq") => `(tactic| first
  | assumption
  | (refine sqt_upd (by assumption) ?_; walk_at "sq")
  | (refine sql_upd (by assumption) ?_; walk_at "sq")
  | (refine IsF.new (by assumption) ?_; walk_at "sq")
  | (refine sqt_same (by assumption) ?_; walk_at "sq")
  | (refine Same.seq (by assumption) ?_; walk_at "sq")
  | (refine IsF.same (by assumption) ?_; walk_at "sq"))
local macro_rules | `(tactic| walk_at "go") => `(tactic| repeat (first
  | refine ⟨_, rfl, ?_⟩
  | refine ⟨_, _, rfl, rfl, ?_⟩
  | refine .inl ⟨_, rfl, ?_⟩))

namespace BB
open PySem PySem.Spec PyProof.Rows L2
def topS (i : Nat) : Stmt := PySem.Challenge.pw_buybook_k03_order_of_fractions.main.body.getD i (.Pass ⟨0, 0, 0, 0⟩)
abbrev s__law_long : Stmt := topS 5
abbrev N__law_long : List Str := ["row", "start", "many", "number", "k"]
theorem sc__law_long : FnScope N__law_long ["row", "start", "many"] (defScope s__law_long) := ⟨rfl, rfl, rfl, by decide +kernel, rfl, by decide +kernel, by decide +kernel⟩
abbrev s__law_gcd : Stmt := topS 6
abbrev N__law_gcd : List Str := ["a", "b", "k"]
theorem sc__law_gcd : FnScope N__law_gcd ["a", "b"] (defScope s__law_gcd) := ⟨rfl, rfl, rfl, by decide +kernel, rfl, by decide +kernel, by decide +kernel⟩
abbrev s__law_lowest : Stmt := topS 7
abbrev N__law_lowest : List Str := ["p", "q", "common"]
theorem sc__law_lowest : FnScope N__law_lowest ["p", "q"] (defScope s__law_lowest) := ⟨rfl, rfl, rfl, by decide +kernel, rfl, by decide +kernel, by decide +kernel⟩
abbrev s__law_drawn : Stmt := topS 8
abbrev N__law_drawn : List Str := ["row", "p", "q"]
theorem sc__law_drawn : FnScope N__law_drawn ["row"] (defScope s__law_drawn) := ⟨rfl, rfl, rfl, by decide +kernel, rfl, by decide +kernel, by decide +kernel⟩
abbrev s__law_row : Stmt := topS 4
abbrev N__law_row : List Str := ["script", "place", "many", "cell", "rest", "row", "k", "mixed"]
theorem sc__law_row : FnScope N__law_row ["script", "place", "many"] (defScope s__law_row) := ⟨rfl, rfl, rfl, by decide +kernel, rfl, by decide +kernel, by decide +kernel⟩
abbrev s_less : Stmt := topS 1
abbrev N_less : List Str := ["a", "b"]
theorem sc_less : FnScope N_less ["a", "b"] (defScope s_less) := ⟨rfl, rfl, rfl, by decide +kernel, rfl, by decide +kernel, by decide +kernel⟩
abbrev s_at_most : Stmt := topS 2
abbrev N_at_most : List Str := ["a", "b"]
theorem sc_at_most : FnScope N_at_most ["a", "b"] (defScope s_at_most) := ⟨rfl, rfl, rfl, by decide +kernel, rfl, by decide +kernel, by decide +kernel⟩
abbrev s_law : Stmt := topS 9
abbrev N_law : List Str := ["script", "a", "b", "shape", "over", "found", "due", "k"]
theorem sc_law : FnScope N_law ["script"] (defScope s_law) := ⟨rfl, rfl, rfl, by decide +kernel, rfl, by decide +kernel, by decide +kernel⟩
section
variable {P : Program} {w : World} {K : PySem.W.Frag} {mg : Str → Option Value} {base : Heap}
def sp__law_long (K : PySem.W.Frag) : Sp := fun vs H Q _ => ∃ (a : Addr) (row : List Int) (st m : Int) (n b : Nat), vs = [.ref a, .int st, .int m] ∧ SqL K H a (row.map V.int) ∧ isRow row n ∧ 0 ≤ st ∧ 0 ≤ m ∧ m ≤ b ∧ st + m ≤ n ∧ n ≤ 1000 ∧
  ∀ x : Int, 0 ≤ x → x.natAbs < 2 ^ (10 * b) → x.natAbs < 1000 ^ b → Q (.int x) H
def sp__law_gcd (K : PySem.W.Frag) : Sp := fun vs H Q _ => ∃ a b : Int, vs = [.int a, .int b] ∧ 0 ≤ a ∧ 0 ≤ b ∧ b.natAbs < 2 ^ 9000 ∧ Q (.int ((Nat.gcd a.natAbs b.natAbs : Nat) : Int)) H
def sp__law_lowest (K : PySem.W.Frag) : Sp := fun vs H Q _ => ∃ (p q : Int), vs = [.int p, .int q] ∧ 0 < q ∧ q.natAbs < 2 ^ 9000 ∧ rF K H (Rat.divInt p q) Q
def sp__law_drawn (K : PySem.W.Frag) : Sp := fun vs H Q _ => ∃ (a : Addr) (row : List Int), vs = [.ref a] ∧ SqL K H a (row.map V.int) ∧ isRow row 24 ∧ ∀ r, Sz 100 r → rF K H r Q
def sp__law_row (K : PySem.W.Frag) : Sp := fun vs H Q _ => ∃ (a : Addr) (ns : List Int) (pl m : Nat), vs = [.ref a, .int (pl : Int), .int (m : Int)] ∧ SqL K H a (ns.map V.int) ∧ m ≤ 1000 ∧
  ∀ H' p row, Same H H' → H p = none → isRow row m → H' p = some (.lst (row.map V.int)) → Q (.ref p) H'
def sp_less (K : PySem.W.Frag) : Sp := fun vs H Q _ => ∃ (a b : Addr) (r s : Rat), vs = [.ref a, .ref b] ∧ IsF K H a r ∧ IsF K H b s ∧ Sz 4000 r ∧ Sz 4000 s ∧ Q (.bl (decide (r < s))) H
def sp_at_most (K : PySem.W.Frag) : Sp := fun vs H Q _ => ∃ (a b : Addr) (r s : Rat), vs = [.ref a, .ref b] ∧ IsF K H a r ∧ IsF K H b s ∧ Sz 4000 r ∧ Sz 4000 s ∧ Q (.bl (decide (r ≤ s))) H
def sp_law (K : PySem.W.Frag) : Sp := fun vs H Q _ => ∃ (a : Addr) (ns : List Int), vs = [.ref a] ∧ SqL K H a (ns.map V.int) ∧ ns.length ≤ 63 ∧ ∀ H', Q (.bl true) H'
theorem ok__law_long {f : Addr} {fd : FuncData} (F : Fun K "_law_long" "_law_long" s__law_long f fd) (m_range : mg "range" = none) : FnOk P w K mg base CX0 1 f fd ["row", "start", "many"] (sp__law_long K) := by
  refine F.ok sc__law_long (fun vs H Q E h => ?_) (fun cdv A outer s H vs Q E hr h => ?_)
  · obtain ⟨a, row, st, m, n, b, rfl, _⟩ := h
    rfl
  · refine ⟨_, (pss_cons (ps_set (i := 3) sc__law_long.nd rfl (Or.inl rfl) pe_int)
      (pss_cons (ps_for PassesOwn.never rfl (pi_range1 rfl m_range (pa_cons (pv 2) pa_nil)) (pg_name (i := 4) sc__law_long.nd rfl (Or.inl rfl))
      (pss_one (ps_set (i := 3) sc__law_long.nd rfl (Or.inl rfl) (pe_op op_add (pe_op op_mulG (pv 3) pe_int) (pe_ix ix_list (pv 0) (pe_op op_add (pv 1) (pv 4)) (fun _ _ => rfl))))))
      (pss_one (ps_ret (pv 3))))), ?_⟩
    obtain ⟨a, row, st, m, n, b, rfl, hS, hrow, h0, h1, hb, hst, hn, Z⟩ := h
    obtain ⟨st, rfl⟩ := Int.eq_ofNat_of_zero_le h0
    obtain ⟨m, rfl⟩ := Int.eq_ofNat_of_zero_le h1
    refine ⟨_, rfl, _, rfl, by omega, by omega, ?_⟩
    refine for_range (lo := 0) (n := m) (fun i σ H2 => H2 = H ∧ ∃ (x : Int) (y : Option V), σ = [some (.ref a), some (.int (st : Int)), some (.int (m : Int)), some (.int x), y] ∧ 0 ≤ x ∧ x.natAbs < 1000 ^ i) ⟨rfl, 0, _, rfl, by decide, by decide⟩ ?_ ?_
    · rintro i σ H2 hi ⟨rfl, x, y, rfl, h0, h1⟩
      obtain ⟨v, hv, v0, v1⟩ := hrow.at (st + i) (by omega)
      have hv' : atI (row.map V.int) ((st : Int) + (0 + (i : Int))) = some (.int v) := by
        rw [← hv]; congr 1; omega
      refine ⟨_, rfl, _, _, rfl, rfl, mulG_b (b := 10) (Nat.lt_of_lt_of_le h1 (pow1000 i)) (by decide) (by omega), _, rfl, _, rfl, _, rfl, _, _, rfl, rfl, _, _, _, _, rfl, rfl, hS, hv', _, _, rfl, rfl, rfl, _, _, rfl, by omega, ?_⟩
      rw [Nat.pow_succ]
      omega
    · rintro σ H2 ⟨rfl, x, y, rfl, h0, h1⟩
      exact ⟨_, rfl, Z x h0 (Nat.lt_of_lt_of_le h1 (Nat.le_trans (pow1000 m) (Nat.pow_le_pow_right (by decide) (by omega)))) (Nat.lt_of_lt_of_le h1 (Nat.pow_le_pow_right (by decide) (by omega)))⟩
theorem ok__law_gcd {f : Addr} {fd : FuncData} (F : Fun K "_law_gcd" "_law_gcd" s__law_gcd f fd) (m_range : mg "range" = none) (m_int : mg "int" = none) : FnOk P w K mg base CX0 1 f fd ["a", "b"] (sp__law_gcd K) := by
  refine F.ok sc__law_gcd (fun vs H Q E h => ?_) (fun cdv A outer s H vs Q E hr h => ?_)
  · obtain ⟨a, b, rfl, _⟩ := h
    rfl
  · refine ⟨_, (pss_cons (ps_for PassesOwn.never rfl (pi_range1 rfl m_range (pa_cons (pe_op op_add (pe_op op_mulG pe_int (pe_bits (pv 1))) pe_int) pa_nil)) (pg_name (i := 2) sc__law_gcd.nd rfl (Or.inl rfl))
      (pss_cons (ps_if (pt_cmpR op_eq (pv 1) pe_int (nomark _))
      (pss_one (ps_ret (pv 0)))
      pss_nil)
      (pss_one (ps_par (i := 0) (j := 1) rfl sc__law_gcd.nd rfl rfl (by decide) rfl rfl (pa_cons (pv 1) (pa_cons (pe_op op_mod (pe_callTy call_int1 (by rfl) m_int (by decide +kernel) (pa_cons (pv 0) pa_nil)) (pv 1)) pa_nil)) (by rfl)))))
      (pss_one (ps_ret (pv 0)))), ?_⟩
    obtain ⟨a, b, rfl, ha, hb, hs, Z⟩ := h
    obtain ⟨a, rfl⟩ := Int.eq_ofNat_of_zero_le ha
    obtain ⟨b, rfl⟩ := Int.eq_ofNat_of_zero_le hb
    rw [Int.natAbs_natCast] at hs
    rw [Int.natAbs_natCast, Int.natAbs_natCast] at Z
    obtain ⟨L, hL, hbits⟩ : ∃ L : Nat, L ≤ 9001 ∧ Builtin.Int.intBits (b : Int) = L := ⟨_, bits_le hs, rfl⟩
    refine ⟨_, rfl, _, rfl, _, _, rfl, rfl, mulG_l (by decide), _, _, rfl, rfl, ?_⟩
    rw [hbits]
    refine ⟨_, rfl, by omega, by omega, ?_⟩
    refine for_range (lo := 0) (n := 2 * L + 2) (fun i σ H1 => H1 = H ∧ ∃ (a' b' : Nat) (y : Option V), σ = [some (.int (a' : Int)), some (.int (b' : Int)), y] ∧ Euc L (Nat.gcd a b) i a' b') ⟨rfl, a, b, _, rfl, euc_start (bits_lt hbits)⟩ ?_ ?_
    · rintro i σ H1 hi ⟨rfl, a', b', y, rfl, he⟩
      refine ⟨_, rfl, rfl, _, rfl, ite2 (fun e => ?_) (fun e => ?_)⟩
      · have e' : (b' : Int) = 0 := V.int.inj (of_decide_eq_true e)
        have e2 : b' = 0 := by omega
        subst e2
        refine ⟨_, rfl, ?_⟩
        rw [euc_zero he]
        exact Z
      · have e' : b' ≠ 0 := fun z => e (decide_eq_true (by rw [z]; rfl))
        refine ⟨_, rfl, _, rfl, .inl ⟨_, rfl, _, rfl, _, _, rfl, rfl, by show (0 : Int) < b'; omega, _, _, rfl, ?_⟩⟩
        exact ⟨rfl, b', a' % b', _, rfl, euc_step he e'⟩
    · rintro σ H1 ⟨rfl, a', b', y, rfl, he⟩
      refine ⟨_, rfl, ?_⟩
      rw [euc_end he]
      exact Z
theorem ok__law_lowest {f : Addr} {fd : FuncData} (F : Fun K "_law_lowest" "_law_lowest" s__law_lowest f fd) (D__law_gcd : Dn P w K mg base CX0 1 "_law_gcd" (sp__law_gcd K)) (m_abs : mg "abs" = none) : FnOk P w K mg base CX0 2 f fd ["p", "q"] (sp__law_lowest K) := by
  refine F.ok sc__law_lowest (fun vs H Q E h => ?_) (fun cdv A outer s H vs Q E hr h => ?_)
  · obtain ⟨p, q, rfl, _⟩ := h
    rfl
  · refine ⟨_, (pss_cons (ps_set (i := 2) sc__law_lowest.nd rfl (Or.inl rfl) (pe_d D__law_gcd hr (by decide) (by rfl) pass0 (pa_cons (pe_callB call_abs (by rfl) m_abs (by decide +kernel) (pa_cons (pv 0) pa_nil)) (pa_cons (pv 1) pa_nil))))
      (pss_one (ps_ret (pe_tup (pa_cons (pe_op op_fdivG (pv 0) (pv 2)) (pa_cons (pe_op op_fdivG (pv 1) (pv 2)) pa_nil)))))), ?_⟩
    obtain ⟨p, q, rfl, hq, hs, Z⟩ := h
    have c := ratio_common (p := p) (Int.ne_of_gt hq)
    have e1 := ratio_num (p := p) (Int.ne_of_gt hq)
    have e2 := ratio_den (p := p) (Int.ne_of_gt hq)
    rw [if_neg (show ¬ q < 0 by omega)] at c e1 e2
    refine ⟨_, rfl, _, rfl, _, rfl, _, _, rfl, abs_nn p, by omega, hs, ?_⟩
    rw [abs_na p]
    refine ⟨_, rfl, _, rfl, _, _, rfl, rfl, ⟨c.1, Nat.lt_of_le_of_lt c.2 hs⟩, _, rfl, _, rfl, _, _, rfl, rfl, ⟨c.1, Nat.lt_of_le_of_lt c.2 hs⟩, by show 2 ≤ sizeLine; decide, fun a ha => ?_⟩
    refine Z _ a (same_upd ha) ha (SqT.of ?_)
    rw [upd_same, ← e1, ← e2]
theorem ok__law_drawn {f : Addr} {fd : FuncData} (F : Fun K "_law_drawn" "_law_drawn" s__law_drawn f fd) (D__law_long : Dn P w K mg base CX0 1 "_law_long" (sp__law_long K)) (D__law_lowest : Dn P w K mg base CX0 2 "_law_lowest" (sp__law_lowest K)) (m_max : mg "max" = none) (m_int : mg "int" = none) : FnOk P w K mg base CX0 3 f fd ["row"] (sp__law_drawn K) := by
  refine F.ok sc__law_drawn (fun vs H Q E h => ?_) (fun cdv A outer s H vs Q E hr h => ?_)
  · obtain ⟨a, row, rfl, _⟩ := h
    rfl
  · refine ⟨_, (pss_cons (ps_set (i := 1) sc__law_drawn.nd rfl (Or.inl rfl) (pe_d D__law_long hr (by decide) (by rfl) pass0 (pa_cons (pv 0) (pa_cons pe_int (pa_cons (pe_op op_add pe_int (pe_op op_mod (pe_callTy call_int1 (by rfl) m_int (by decide +kernel) (pa_cons (pe_ix ix_list (pv 0) pe_int (fun _ _ => rfl)) pa_nil)) pe_int)) pa_nil)))))
      (pss_cons (ps_set (i := 2) sc__law_drawn.nd rfl (Or.inl rfl) (pe_callB (call_max2 rfl) (by rfl) m_max (by decide +kernel) (pa_cons pe_int (pa_cons (pe_d D__law_long hr (by decide) (by rfl) pass0 (pa_cons (pv 0) (pa_cons pe_int (pa_cons (pe_op op_add pe_int (pe_op op_mod (pe_callTy call_int1 (by rfl) m_int (by decide +kernel) (pa_cons (pe_ix ix_list (pv 0) pe_int (fun _ _ => rfl)) pa_nil)) pe_int)) pa_nil)))) pa_nil))))
      (C8.pss_cut (ps_if (pt_cmpR op_lt (pe_op op_mod (pe_callTy call_int1 (by rfl) m_int (by decide +kernel) (pa_cons (pe_op op_fdiv (pe_ix ix_list (pv 0) pe_int (fun _ _ => rfl)) pe_int) pa_nil)) pe_int) pe_int (nomark _))
      (pss_cons (ps_set (i := 1) sc__law_drawn.nd rfl (Or.inl rfl) (pe_op op_mod (pe_callTy call_int1 (by rfl) m_int (by decide +kernel) (pa_cons (pv 1) pa_nil)) pe_int))
      (pss_one (ps_set (i := 2) sc__law_drawn.nd rfl (Or.inl rfl) (pe_op op_add pe_int (pe_op op_mod (pe_callTy call_int1 (by rfl) m_int (by decide +kernel) (pa_cons (pv 2) pa_nil)) pe_int)))))
      pss_nil)
      (C8.pss_cut (ps_if (pt_cmpR op_eq (pe_op op_mod (pe_callTy call_int1 (by rfl) m_int (by decide +kernel) (pa_cons (pe_op op_fdiv (pe_ix ix_list (pv 0) pe_int (fun _ _ => rfl)) pe_int) pa_nil)) pe_int) pe_int (nomark _))
      (pss_one (ps_set (i := 1) sc__law_drawn.nd rfl (Or.inl rfl) (pe_un un_neg (pv 1))))
      pss_nil)
      (pss_one (ps_ret (pe_d D__law_lowest hr (by decide) (by rfl) pass0 (pa_cons (pv 1) (pa_cons (pv 2) pa_nil))))))))), ?_⟩
    obtain ⟨a, row, rfl, hS, hrow, Z⟩ := h
    obtain ⟨v0, a0, b0, c0⟩ := hrow.at 0 (by decide)
    obtain ⟨v1, a1, b1, c1⟩ := hrow.at 1 (by decide)
    refine ⟨_, rfl, _, rfl, _, _, _, _, rfl, rfl, hS, a0, .inl ⟨_, rfl, _, _, rfl, rfl, by show (0 : Int) < 10; decide, _, _, rfl, rfl, ?_⟩⟩
    refine ⟨_, _, _, _, 24, 10, rfl, hS, hrow, by omega, by omega, by omega, by omega, by omega, fun x x0 x1 _ => ?_⟩
    refine ⟨_, rfl, _, rfl, _, _, _, _, rfl, rfl, hS, a1, .inl ⟨_, rfl, _, _, rfl, rfl, by show (0 : Int) < 10; decide, _, _, rfl, rfl, ?_⟩⟩
    refine ⟨_, _, _, _, 24, 10, rfl, hS, hrow, by omega, by omega, by omega, by omega, by omega, fun y y0 y1 _ => ?_⟩
    refine ⟨_, _, rfl, ?_⟩
    obtain ⟨y, hy, rfl⟩ : ∃ y' : Int, (0 < y' ∧ y'.natAbs < 2 ^ 100) ∧ y' = (if y > 1 then y else 1) := ⟨_, by split <;> omega, rfl⟩
    refine ⟨fun σ H1 => H1 = H ∧ ∃ p q : Int, σ = [some (.ref a), some (.int p), some (.int q)] ∧ p.natAbs < 2 ^ 100 ∧ 0 < q ∧ q.natAbs < 2 ^ 100, ?_, ?_⟩
    · refine ⟨_, rfl, _, _, _, _, rfl, rfl, hS, a0, _, _, rfl, rfl, ⟨by decide, by decide⟩, .inl ⟨_, rfl, _, _, rfl, rfl, by show (0 : Int) < 4; decide, _, _, rfl, rfl, _, rfl, ite2 (fun e => ?_) (fun e => ?_)⟩⟩
      · refine ⟨_, rfl, .inl ⟨_, rfl, _, _, rfl, rfl, by show (0 : Int) < 13; decide, ?_⟩⟩
        refine ⟨_, rfl, .inl ⟨_, rfl, _, _, rfl, rfl, by show (0 : Int) < 9; decide, _, _, rfl, rfl, rfl, _, _, rfl, by omega, by omega, by omega⟩⟩
      · exact ⟨rfl, _, _, rfl, x1, hy.1, hy.2⟩
    · rintro σ H1 ⟨rfl, p, q, rfl, hp, hq, hq2⟩
      refine ⟨fun σ H2 => H2 = H1 ∧ ∃ p q : Int, σ = [some (.ref a), some (.int p), some (.int q)] ∧ p.natAbs < 2 ^ 100 ∧ 0 < q ∧ q.natAbs < 2 ^ 100, ?_, ?_⟩
      · refine ⟨_, rfl, _, _, _, _, rfl, rfl, hS, a1, _, _, rfl, rfl, ⟨by decide, by decide⟩, .inl ⟨_, rfl, _, _, rfl, rfl, by show (0 : Int) < 2; decide, rfl, _, rfl, ite2 (fun e => ?_) (fun e => ?_)⟩⟩
        · exact ⟨_, rfl, _, rfl, rfl, _, _, rfl, by omega, hq, hq2⟩
        · exact ⟨rfl, _, _, rfl, hp, hq, hq2⟩
      · rintro σ H2 ⟨rfl, p, q, rfl, hp, hq, hq2⟩
        refine ⟨_, rfl, _, rfl, _, _, rfl, hq, Nat.lt_of_lt_of_le hq2 (Nat.pow_le_pow_right (by decide) (by decide)), ?_⟩
        exact Z _ (divInt_sz (Int.ne_of_gt hq) hp hq2)
theorem ok__law_row {f : Addr} {fd : FuncData} (F : Fun K "_law_row" "_law_row" s__law_row f fd) (m_range : mg "range" = none) (m_len : mg "len" = none) (m_int : mg "int" = none) : FnOk P w K mg base CX0 1 f fd ["script", "place", "many"] (sp__law_row K) := by
  refine F.ok sc__law_row (fun vs H Q E h => ?_) (fun cdv A outer s H vs Q E hr h => ?_)
  · obtain ⟨a, ns, pl, m, rfl, _⟩ := h
    rfl
  · refine ⟨_, (pss_cons (ps_set (i := 3) sc__law_row.nd rfl (Or.inl rfl) (pe_op op_add (pe_op op_mulG pe_int (pv 1)) pe_int))
      (C8.pss_cut (ps_if (pt_cmpR op_lt (pv 1) (pe_callB call_len_seq (by rfl) m_len (by decide +kernel) (pa_cons (pv 0) pa_nil)) (nomark _))
      (pss_one (ps_set (i := 3) sc__law_row.nd rfl (Or.inl rfl) (pe_ix ix_list (pv 0) (pv 1) (fun _ _ => rfl))))
      pss_nil)
      (pss_cons (ps_set (i := 4) sc__law_row.nd rfl (Or.inl rfl) (pe_op op_sub (pv 3) (pe_op op_pow pe_int pe_int)))
      (pss_cons (ps_set (i := 5) sc__law_row.nd rfl (Or.inl rfl) (pe_lst pa_nil))
      (pss_cons (ps_for PassesOwn.never rfl (pi_range1 rfl m_range (pa_cons (pv 2) pa_nil)) (pg_name (i := 6) sc__law_row.nd rfl (Or.inl rfl))
      (pss_one (ps_if (pt_cmpR op_gt (pv 4) pe_int (nomark _))
      (pss_cons (ps_expr (pe_bm PySem.F.plainAttrs_list PySem.F.slot_list_append PySem.F.type_list_append mt_append (pv 5) (pa_cons (pe_op op_mod (pe_callTy call_int1 (by rfl) m_int (by decide +kernel) (pa_cons (pv 4) pa_nil)) pe_int) pa_nil)))
      (pss_one (ps_set (i := 4) sc__law_row.nd rfl (Or.inl rfl) (pe_op op_fdiv (pv 4) pe_int))))
      (pss_cons (ps_set (i := 7) sc__law_row.nd rfl (Or.inl rfl) (pe_op op_mod (pe_callTy call_int1 (by rfl) m_int (by decide +kernel) (pa_cons (pe_op op_add (pe_op op_add (pe_op op_mulG (pv 3) pe_int) (pe_op op_mulG (pv 6) pe_int)) pe_int) pa_nil)) pe_int))
      (pss_cons (ps_set (i := 7) sc__law_row.nd rfl (Or.inl rfl) (pe_op op_mod (pe_callTy call_int1 (by rfl) m_int (by decide +kernel) (pa_cons (pe_op op_add (pe_op op_add (pe_op op_mulG (pv 7) (pv 7)) (pe_op op_mulG (pv 7) pe_int)) (pe_op op_mulG (pv 6) pe_int)) pa_nil)) pe_int))
      (pss_one (ps_expr (pe_bm PySem.F.plainAttrs_list PySem.F.slot_list_append PySem.F.type_list_append mt_append (pv 5) (pa_cons (pe_op op_mod (pe_op op_fdiv (pv 7) pe_int) pe_int) pa_nil)))))))))
      (pss_one (ps_ret (pv 5)))))))), ?_⟩
    obtain ⟨a, ns, pl, m, rfl, hS, hm, Z⟩ := h
    refine ⟨_, rfl, _, _, rfl, rfl, mulG_l (by decide), _, _, rfl, rfl, ?_⟩
    refine ⟨fun σ H1 => H1 = H ∧ ∃ c : Int, σ = [some (.ref a), some (.int (pl : Int)), some (.int (m : Int)), some (.int c), none, none, none, none], ?_, ?_⟩
    · refine ⟨_, rfl, _, rfl, a, _, rfl, .inl hS, _, _, rfl, rfl, _, rfl, ite2 (fun e => ?_) (fun e => ⟨rfl, _, rfl⟩)⟩
      have e' : (pl : Int) < (ns.map V.int).length := of_decide_eq_true e
      rw [List.length_map] at e'
      have g : (ns.map V.int)[pl]? = some (.int (ns[pl]'(by omega))) := by
        rw [List.getElem?_map, List.getElem?_eq_getElem (by omega)]
        rfl
      exact ⟨_, rfl, _, rfl, _, _, _, _, rfl, rfl, hS, atI_nat g, rfl, _, rfl⟩
    · rintro σ H1 ⟨rfl, c, rfl⟩
      refine ⟨_, rfl, _, _, rfl, rfl, ⟨by decide, by decide, by decide⟩, _, _, rfl, rfl, Nat.zero_le _, fun o no => ?_⟩
      refine ⟨_, rfl, _, rfl, by omega, by omega, ?_⟩
      refine for_range (lo := 0) (n := m) (fun i σ H2 => ∃ (r : Int) (y6 y7 : Option V), σ = [some (.ref a), some (.int (pl : Int)), some (.int (m : Int)), some (.int c), some (.int r), some (.ref o), y6, y7] ∧ RowAt H1 H2 o i)
        ⟨_, _, _, rfl, RowAt.start no⟩ ?_ ?_
      · rintro i σ H2 hi ⟨r, y6, y7, rfl, ra⟩
        obtain ⟨_, sm, rw, hrw, eo⟩ := id ra
        have hsz : (rw.map V.int).length < sizeLine := by
          rw [List.length_map, hrw.1]; exact small1000 (by omega)
        refine ⟨_, rfl, _, _, rfl, rfl, _, rfl, ite2 (fun e => ?_) (fun e => ?_)⟩
        · refine ⟨_, rfl, .inl ⟨rfl, _, .inl (.inl eo)⟩, _, rfl, .inl ⟨_, rfl, _, _, rfl, rfl, by show (0 : Int) < 1000; decide, _, _, _, rfl, rfl, eo, hsz, ?_⟩⟩
          refine ⟨_, rfl, _, _, rfl, rfl, ⟨by decide, by decide⟩, ?_⟩
          exact ⟨_, _, _, rfl, ra.push eo (by omega) (by omega)⟩
        · refine ⟨_, rfl, _, _, rfl, rfl, mulG_r (by decide), _, rfl, _, _, rfl, rfl, mulG_r (by decide), _, _, rfl, rfl, _, _, rfl, rfl, .inl ⟨_, rfl, _, _, rfl, rfl, by show (0 : Int) < 2147483647; decide, ?_⟩⟩
          refine ⟨_, rfl, _, rfl, _, _, rfl, rfl, mulG_l (by omega), _, rfl, _, _, rfl, rfl, mulG_r (by decide), _, _, rfl, rfl, _, rfl, _, _, rfl, rfl, mulG_r (by decide), _, _, rfl, rfl, .inl ⟨_, rfl, _, _, rfl, rfl, by show (0 : Int) < 2147483399; decide, ?_⟩⟩
          refine ⟨_, rfl, .inl ⟨rfl, _, .inl (.inl eo)⟩, _, rfl, _, _, rfl, rfl, ⟨by decide, by decide⟩, _, _, rfl, rfl, by show (0 : Int) < 1000; decide, _, _, _, rfl, rfl, eo, hsz, ?_⟩
          exact ⟨_, _, _, rfl, ra.push eo (by omega) (by omega)⟩
      · rintro σ H2 ⟨r, y6, y7, rfl, _, sm, rw, hrw, eo⟩
        exact ⟨_, rfl, Z _ _ _ sm no hrw eo⟩
theorem ok_less {f : Addr} {fd : FuncData} (F : Fun K "less" "less" s_less f fd) : FnOk P w K mg base CX0 1 f fd ["a", "b"] (sp_less K) := by
  refine F.ok sc_less (fun vs H Q E h => ?_) (fun cdv A outer s H vs Q E hr h => ?_)
  · obtain ⟨a, b, r, s, rfl, _⟩ := h
    rfl
  · refine ⟨_, (pss_one (ps_ret (pe_cmpR op_lt (pe_op op_mulG (pe_ix ix_tup (pv 0) pe_int (fun _ _ => rfl)) (pe_ix ix_tup (pv 1) pe_int (fun _ _ => rfl))) (pe_op op_mulG (pe_ix ix_tup (pv 1) pe_int (fun _ _ => rfl)) (pe_ix ix_tup (pv 0) pe_int (fun _ _ => rfl))) (nomark _)))), ?_⟩
    obtain ⟨a, b, r, s, rfl, ha, hb, sr, ss, Z⟩ := h
    refine ⟨_, rfl, _, _, _, _, rfl, rfl, ha, rfl, _, rfl, _, _, _, _, rfl, rfl, hb, rfl, _, _, rfl, rfl, mulG_b sr.1 ss.den (by decide), ?_⟩
    refine ⟨_, rfl, _, _, _, _, rfl, rfl, hb, rfl, _, rfl, _, _, _, _, rfl, rfl, ha, rfl, _, _, rfl, rfl, mulG_b ss.1 sr.den (by decide), _, _, rfl, rfl, ?_⟩
    rw [show decide (r < s) = decide (r.num * (s.den : Int) < s.num * (r.den : Int)) from decide_eq_decide.mpr (Rat.lt_iff r s)] at Z
    exact Z
theorem ok_at_most {f : Addr} {fd : FuncData} (F : Fun K "at_most" "at_most" s_at_most f fd) : FnOk P w K mg base CX0 1 f fd ["a", "b"] (sp_at_most K) := by
  refine F.ok sc_at_most (fun vs H Q E h => ?_) (fun cdv A outer s H vs Q E hr h => ?_)
  · obtain ⟨a, b, r, s, rfl, _⟩ := h
    rfl
  · refine ⟨_, (pss_one (ps_ret (pe_cmpR op_le (pe_op op_mulG (pe_ix ix_tup (pv 0) pe_int (fun _ _ => rfl)) (pe_ix ix_tup (pv 1) pe_int (fun _ _ => rfl))) (pe_op op_mulG (pe_ix ix_tup (pv 1) pe_int (fun _ _ => rfl)) (pe_ix ix_tup (pv 0) pe_int (fun _ _ => rfl))) (nomark _)))), ?_⟩
    obtain ⟨a, b, r, s, rfl, ha, hb, sr, ss, Z⟩ := h
    refine ⟨_, rfl, _, _, _, _, rfl, rfl, ha, rfl, _, rfl, _, _, _, _, rfl, rfl, hb, rfl, _, _, rfl, rfl, mulG_b sr.1 ss.den (by decide), ?_⟩
    refine ⟨_, rfl, _, _, _, _, rfl, rfl, hb, rfl, _, rfl, _, _, _, _, rfl, rfl, ha, rfl, _, _, rfl, rfl, mulG_b ss.1 sr.den (by decide), _, _, rfl, rfl, ?_⟩
    rw [show decide (r ≤ s) = decide (r.num * (s.den : Int) ≤ s.num * (r.den : Int)) from decide_eq_decide.mpr (Rat.le_iff r s)] at Z
    exact Z
theorem ok_law {f : Addr} {fd : FuncData} (F : Fun K "law" "law" s_law f fd) (D__law_drawn : Dn P w K mg base CX0 3 "_law_drawn" (sp__law_drawn K)) (D__law_row : Dn P w K mg base CX0 1 "_law_row" (sp__law_row K)) (D__law_lowest : Dn P w K mg base CX0 2 "_law_lowest" (sp__law_lowest K)) (D_less : Dn P w K mg base CX0 1 "less" (sp_less K)) (D_at_most : Dn P w K mg base CX0 1 "at_most" (sp_at_most K)) (m_range : mg "range" = none) (m_int : mg "int" = none) (m_isinstance : mg "isinstance" = none) (m_bool : mg "bool" = none) : FnOk P w K mg base CX0 4 f fd ["script"] (sp_law K) := by
  refine F.ok sc_law (fun vs H Q E h => ?_) (fun cdv A outer s H vs Q E hr h => ?_)
  · obtain ⟨a, ns, rfl, _⟩ := h
    rfl
  · refine ⟨_, (pss_cons (ps_set (i := 1) sc_law.nd rfl (Or.inl rfl) (pe_d D__law_drawn hr (by decide) (by rfl) pass0 (pa_cons (pe_d D__law_row hr (by decide) (by rfl) pass0 (pa_cons (pv 0) (pa_cons pe_int (pa_cons pe_int pa_nil)))) pa_nil)))
      (pss_cons (ps_set (i := 2) sc_law.nd rfl (Or.inl rfl) (pe_d D__law_drawn hr (by decide) (by rfl) pass0 (pa_cons (pe_d D__law_row hr (by decide) (by rfl) pass0 (pa_cons (pv 0) (pa_cons pe_int (pa_cons pe_int pa_nil)))) pa_nil)))
      (pss_cons (ps_set (i := 3) sc_law.nd rfl (Or.inl rfl) (pe_op op_mod (pe_callTy call_int1 (by rfl) m_int (by decide +kernel) (pa_cons (pe_ix ix_list (pe_d D__law_row hr (by decide) (by rfl) pass0 (pa_cons (pv 0) (pa_cons pe_int (pa_cons pe_int pa_nil)))) pe_int (fun _ _ => rfl)) pa_nil)) pe_int))
      (C8.pss_cut (ps_if (pt_cmpR op_eq (pv 3) pe_int (nomark _))
      (pss_one (ps_set (i := 2) sc_law.nd rfl (Or.inl rfl) (pv 1)))
      pss_nil)
      (C8.pss_cut (ps_if (pt_cmpR op_eq (pv 3) pe_int (nomark _))
      (pss_one (ps_set (i := 2) sc_law.nd rfl (Or.inl rfl) (pe_tup (pa_cons (pe_un un_neg (pe_ix ix_tup (pv 1) pe_int (fun _ _ => rfl))) (pa_cons (pe_ix ix_tup (pv 1) pe_int (fun _ _ => rfl)) pa_nil)))))
      pss_nil)
      (C8.pss_cut (ps_if (pt_cmpR op_eq (pv 3) pe_int (nomark _))
      (pss_one (ps_set (i := 2) sc_law.nd rfl (Or.inl rfl) (pe_d D__law_lowest hr (by decide) (by rfl) pass0 (pa_cons (pe_op op_add (pe_ix ix_tup (pv 1) pe_int (fun _ _ => rfl)) pe_int) (pa_cons (pe_op op_add (pe_ix ix_tup (pv 1) pe_int (fun _ _ => rfl)) pe_int) pa_nil)))))
      pss_nil)
      (pss_cons (ps_set (i := 4) sc_law.nd rfl (Or.inl rfl) (pe_op op_sub (pe_op op_mulG (pe_ix ix_tup (pv 1) pe_int (fun _ _ => rfl)) (pe_ix ix_tup (pv 2) pe_int (fun _ _ => rfl))) (pe_op op_mulG (pe_ix ix_tup (pv 2) pe_int (fun _ _ => rfl)) (pe_ix ix_tup (pv 1) pe_int (fun _ _ => rfl)))))
      (pss_cons (ps_set (i := 5) sc_law.nd rfl (Or.inl rfl) (pe_lst (pa_cons (pe_d D_less hr (by decide) (by rfl) pass0 (pa_cons (pv 1) (pa_cons (pv 2) pa_nil))) (pa_cons (pe_d D_less hr (by decide) (by rfl) pass0 (pa_cons (pv 2) (pa_cons (pv 1) pa_nil))) (pa_cons (pe_d D_at_most hr (by decide) (by rfl) pass0 (pa_cons (pv 1) (pa_cons (pv 2) pa_nil))) (pa_cons (pe_d D_at_most hr (by decide) (by rfl) pass0 (pa_cons (pv 2) (pa_cons (pv 1) pa_nil))) pa_nil))))))
      (pss_cons (ps_set (i := 6) sc_law.nd rfl (Or.inl rfl) (pe_lst (pa_cons (pe_cmpR op_lt (pv 4) pe_int (nomark _)) (pa_cons (pe_cmpR op_gt (pv 4) pe_int (nomark _)) (pa_cons (pe_cmpR op_le (pv 4) pe_int (nomark _)) (pa_cons (pe_cmpR op_ge (pv 4) pe_int (nomark _)) pa_nil))))))
      (pss_cons (ps_for PassesOwn.never rfl (pi_range1 rfl m_range (pa_cons pe_int pa_nil)) (pg_name (i := 7) sc_law.nd rfl (Or.inl rfl))
      (pss_one (ps_if (PW.pt (pw_or (pt_not (pt_val (pe_callB call_isi (by rfl) m_isinstance (by decide +kernel) (pa_cons (pe_ix ix_list (pv 5) (pv 7) (fun _ _ => rfl)) (pa_cons (pe_bltn (v := .ty "bool") (by rfl) m_bool (by decide +kernel) rfl) pa_nil))))) (pw_or1 (pt_cmpR op_ne (pe_ix ix_list (pv 5) (pv 7) (fun _ _ => rfl)) (pe_ix ix_list (pv 6) (pv 7) (fun _ _ => rfl)) (nomark _)))))
      (pss_one (ps_ret pe_bl))
      pss_nil)))
      (pss_one (ps_ret pe_bl)))))))))))), ?_⟩
    obtain ⟨o, ns, rfl, hS, hlen, Z⟩ := h
    -- a
    refine ⟨_, rfl, _, _, 0, 24, rfl, hS, by decide, fun H1 o1 row1 s1 _ hr1 e1 => ?_⟩
    refine ⟨_, _, rfl, SqL.of e1, hr1, fun r sr H2 a s2 _ ha => ?_⟩
    -- b
    refine ⟨_, rfl, _, _, 1, 24, rfl, s2.seq (s1.seq hS), by decide, fun H3 o3 row3 s3 _ hr3 e3 => ?_⟩
    refine ⟨_, _, rfl, SqL.of e3, hr3, fun t st H4 b s4 _ hb => ?_⟩
    have ha4 : IsF K H4 a r := (ha.same s3).same s4
    -- shape
    refine ⟨_, rfl, _, _, 2, 1, rfl, s4.seq (s3.seq (s2.seq (s1.seq hS))), by decide, fun H5 o5 row5 s5 _ hr5 e5 => ?_⟩
    obtain ⟨v, av, _, _⟩ := hr5.at 0 (by decide)
    refine ⟨_, _, _, _, rfl, rfl, SqL.of e5, av, .inl ⟨_, rfl, _, _, rfl, rfl, by show (0 : Int) < 8; decide, ?_⟩⟩
    have ha5 : IsF K H5 a r := ha4.same s5
    have hb5 : IsF K H5 b t := hb.same s5
    refine ⟨fun σ H' => H' = H5 ∧ ∃ (b : Addr) (t : Rat), σ = [some (.ref o), some (.ref a), some (.ref b), some (.int (v % 8)), none, none, none, none] ∧ IsF K H5 b t ∧ Sz 101 t, ?_, ?_⟩
    · refine ⟨_, rfl, rfl, _, rfl, ite2 (fun e => ?_) (fun e => ?_)⟩
      · exact ⟨_, rfl, rfl, _, _, rfl, ha5, sr.mono (by decide)⟩
      · exact ⟨rfl, _, _, rfl, hb5, st.mono (by decide)⟩
    rintro σ H' ⟨rfl, b, t, rfl, hb5, st⟩
    refine ⟨fun σ H6 => Same H' H6 ∧ ∃ (b : Addr) (t : Rat), σ = [some (.ref o), some (.ref a), some (.ref b), some (.int (v % 8)), none, none, none, none] ∧ IsF K H6 b t ∧ Sz 101 t, ?_, ?_⟩
    · refine ⟨_, rfl, rfl, _, rfl, ite2 (fun e => ?_) (fun e => ?_)⟩
      · refine ⟨_, rfl, _, _, _, _, rfl, rfl, ha5, rfl, _, rfl, _, rfl, _, _, _, _, rfl, rfl, ha5, rfl, by show 2 ≤ sizeLine; decide, fun c hc => ?_⟩
        exact ⟨same_upd hc, c, -r, rfl, SqT.of upd_same, sr.neg.mono (by decide)⟩
      · exact ⟨Same.refl _, _, _, rfl, hb5, st⟩
    rintro σ H6 ⟨s6, b, t, rfl, hb6, st⟩
    have ha6 : IsF K H6 a r := ha5.same s6
    refine ⟨fun σ H7 => Same H6 H7 ∧ ∃ (b : Addr) (t : Rat), σ = [some (.ref o), some (.ref a), some (.ref b), some (.int (v % 8)), none, none, none, none] ∧ IsF K H7 b t ∧ Sz 101 t, ?_, ?_⟩
    · refine ⟨_, rfl, rfl, _, rfl, ite2 (fun e => ?_) (fun e => ?_)⟩
      · have l1 := sr.1
        have l2 := sr.2
        refine ⟨_, rfl, _, _, _, _, rfl, rfl, ha6, rfl, _, _, rfl, rfl, _, rfl, _, _, _, _, rfl, rfl, ha6, rfl, _, _, rfl, rfl, _, _, rfl, by omega, Nat.lt_of_lt_of_le (show ((r.den : Int) + 1).natAbs < 2 ^ 101 by omega) (Nat.pow_le_pow_right (by decide) (by decide)), fun H7 c s7 _ hc => ?_⟩
        exact ⟨s7, c, _, rfl, hc, divInt_sz (by omega) (by omega) (by omega)⟩
      · exact ⟨Same.refl _, _, _, rfl, hb6, st⟩
    rintro σ H7 ⟨s7, b, t, rfl, hb, st⟩
    have ha : IsF K H7 a r := ha6.same s7
    -- over
    refine ⟨_, rfl, _, _, _, _, rfl, rfl, ha, rfl, _, rfl, _, _, _, _, rfl, rfl, hb, rfl, _, _, rfl, rfl, mulG_b sr.1 st.den (by decide), ?_⟩
    refine ⟨_, rfl, _, _, _, _, rfl, rfl, hb, rfl, _, rfl, _, _, _, _, rfl, rfl, ha, rfl, _, _, rfl, rfl, mulG_b st.1 sr.den (by decide), _, _, rfl, rfl, ?_⟩
    -- found
    have sr' : Sz 4000 r := sr.mono (by decide)
    have st' : Sz 4000 t := st.mono (by decide)
    refine ⟨_, rfl, _, rfl, _, _, r, t, rfl, ha, hb, sr', st', ?_⟩
    refine ⟨_, rfl, _, rfl, _, _, t, r, rfl, hb, ha, st', sr', ?_⟩
    refine ⟨_, rfl, _, rfl, _, _, r, t, rfl, ha, hb, sr', st', ?_⟩
    refine ⟨_, rfl, _, rfl, _, _, t, r, rfl, hb, ha, st', sr', by show 4 ≤ sizeLine; decide, fun p hp => ?_⟩
    -- due
    refine ⟨_, rfl, _, _, rfl, rfl, _, rfl, _, _, rfl, rfl, _, rfl, _, _, rfl, rfl, _, rfl, _, _, rfl, rfl, by show 4 ≤ sizeLine; decide, fun q hq => ?_⟩
    have eq : upd (upd H7 p (.lst [.bl (decide (r < t)), .bl (decide (t < r)), .bl (decide (r ≤ t)), .bl (decide (t ≤ r))])) q (.lst [.bl (decide (r < t)), .bl (decide (t < r)), .bl (decide (r ≤ t)), .bl (decide (t ≤ r))]) q = some (.lst [.bl (decide (r < t)), .bl (decide (t < r)), .bl (decide (r ≤ t)), .bl (decide (t ≤ r))]) := upd_same
    have d1 : decide (r.num * (t.den : Int) - t.num * (r.den : Int) < 0) = decide (r < t) := decide_eq_decide.mpr (by rw [Rat.lt_iff]; omega)
    have d2 : decide (0 < r.num * (t.den : Int) - t.num * (r.den : Int)) = decide (t < r) := decide_eq_decide.mpr (by rw [Rat.lt_iff]; omega)
    have d3 : decide (r.num * (t.den : Int) - t.num * (r.den : Int) ≤ 0) = decide (r ≤ t) := decide_eq_decide.mpr (by rw [Rat.le_iff]; omega)
    have d4 : decide (0 ≤ r.num * (t.den : Int) - t.num * (r.den : Int)) = decide (t ≤ r) := decide_eq_decide.mpr (by rw [Rat.le_iff]; omega)
    obtain ⟨H8, e8⟩ : ∃ H8, H8 = upd (upd H7 p (.lst [.bl (decide (r < t)), .bl (decide (t < r)), .bl (decide (r ≤ t)), .bl (decide (t ≤ r))])) q (.lst [.bl (decide (r.num * (t.den : Int) - t.num * (r.den : Int) < 0)), .bl (decide (0 < r.num * (t.den : Int) - t.num * (r.den : Int))), .bl (decide (r.num * (t.den : Int) - t.num * (r.den : Int) ≤ 0)), .bl (decide (0 ≤ r.num * (t.den : Int) - t.num * (r.den : Int)))]) := ⟨_, rfl⟩
    have hq8 : SqL K H8 q [.bl (decide (r < t)), .bl (decide (t < r)), .bl (decide (r ≤ t)), .bl (decide (t ≤ r))] := by
      rw [e8, d1, d2, d3, d4]
      exact SqL.of upd_same
    have hp8 : SqL K H8 p [.bl (decide (r < t)), .bl (decide (t < r)), .bl (decide (r ≤ t)), .bl (decide (t ≤ r))] := by
      rw [e8]
      exact sql_upd hq (SqL.of upd_same)
    refine ⟨_, rfl, by decide, by decide, ?_⟩
    refine for_range (lo := 0) (n := 4) (fun i σ H9 => H9 = H8 ∧ ∃ (x : Int) (y : Option V), σ = [some (.ref o), some (.ref a), some (.ref b), some (.int (v % 8)), some (.int x), some (.ref p), some (.ref q), y]) ⟨e8.symm, _, _, rfl⟩ ?_ ?_
    · rintro i σ H9 hi ⟨rfl, x, y, rfl⟩
      obtain ⟨c, hc⟩ : ∃ c : Bool, atI [V.bl (decide (r < t)), .bl (decide (t < r)), .bl (decide (r ≤ t)), .bl (decide (t ≤ r))] (0 + (i : Int)) = some (.bl c) := by
        have : i = 0 ∨ i = 1 ∨ i = 2 ∨ i = 3 := by omega
        rcases this with rfl | rfl | rfl | rfl <;> exact ⟨_, rfl⟩
      refine ⟨_, rfl, _, rfl, _, _, _, _, rfl, rfl, hp8, hc, _, _, _, _, true, rfl, .ty _, .base (.bl c), kit_ty (by decide +kernel), true, rfl, iteF ?_⟩
      refine ⟨_, rfl, _, rfl, _, _, _, _, rfl, rfl, hp8, hc, _, rfl, _, rfl, _, _, _, _, rfl, rfl, hq8, hc, rfl, _, rfl, ?_⟩
      rw [decide_eq_true rfl]
      exact iteF ⟨rfl, _, _, rfl⟩
    · rintro σ H9 ⟨rfl, x, y, rfl⟩
      exact Z _
end
theorem all_mk {l : PySem.W.OpenLaw} {w : World} {K : PySem.W.Frag} {h : Heap} {mg : Str → Option Value} {fa f1 f2 f3 f4 f5 f6 f7 f8 : Addr} (X : K.In h) (G : h.Ns mainGlobals mg) (hfa : mg "law" = some (.ref fa))
    {od1 an1 od2 an2 od3 an3 od4 an4 od5 an5 od6 an6 od7 an7 od8 an8 : Option Addr} {sl1 sl2 sl3 sl4 sl5 sl6 sl7 sl8 : Array (Option Value)} {oc1 kV1 dc1 pm1 ct1 cd1 oc2 kV2 dc2 pm2 ct2 cd2 oc3 kV3 dc3 pm3 ct3 cd3 oc4 kV4 dc4 pm4 ct4 cd4 oc5 kV5 dc5 pm5 ct5 cd5 oc6 kV6 dc6 pm6 ct6 cd6 oc7 kV7 dc7 pm7 ct7 cd7 oc8 kV8 dc8 pm8 ct8 cd8 : Value}
    (a1 : PySem.W.nsIn K mainGlobals "_law_long" = some (some (.ref f1)))
    (l1 : K.lookup f1 = some ⟨oc1, od1, .func (PySem.W.fnOf "_law_long" "_law_long" (defArgs s__law_long) (defBody s__law_long) (defScope s__law_long) .none kV1 dc1 pm1 an1 cd1 ct1), sl1⟩)
    (c1 : PySem.W.codeIn K cd1 "_law_long" = true)
    (k1 : PySem.W.keepIn K (.ref f1) = true)
    (a2 : PySem.W.nsIn K mainGlobals "_law_gcd" = some (some (.ref f2)))
    (l2 : K.lookup f2 = some ⟨oc2, od2, .func (PySem.W.fnOf "_law_gcd" "_law_gcd" (defArgs s__law_gcd) (defBody s__law_gcd) (defScope s__law_gcd) .none kV2 dc2 pm2 an2 cd2 ct2), sl2⟩)
    (c2 : PySem.W.codeIn K cd2 "_law_gcd" = true)
    (k2 : PySem.W.keepIn K (.ref f2) = true)
    (a3 : PySem.W.nsIn K mainGlobals "_law_lowest" = some (some (.ref f3)))
    (l3 : K.lookup f3 = some ⟨oc3, od3, .func (PySem.W.fnOf "_law_lowest" "_law_lowest" (defArgs s__law_lowest) (defBody s__law_lowest) (defScope s__law_lowest) .none kV3 dc3 pm3 an3 cd3 ct3), sl3⟩)
    (c3 : PySem.W.codeIn K cd3 "_law_lowest" = true)
    (k3 : PySem.W.keepIn K (.ref f3) = true)
    (a4 : PySem.W.nsIn K mainGlobals "_law_drawn" = some (some (.ref f4)))
    (l4 : K.lookup f4 = some ⟨oc4, od4, .func (PySem.W.fnOf "_law_drawn" "_law_drawn" (defArgs s__law_drawn) (defBody s__law_drawn) (defScope s__law_drawn) .none kV4 dc4 pm4 an4 cd4 ct4), sl4⟩)
    (c4 : PySem.W.codeIn K cd4 "_law_drawn" = true)
    (k4 : PySem.W.keepIn K (.ref f4) = true)
    (a5 : PySem.W.nsIn K mainGlobals "_law_row" = some (some (.ref f5)))
    (l5 : K.lookup f5 = some ⟨oc5, od5, .func (PySem.W.fnOf "_law_row" "_law_row" (defArgs s__law_row) (defBody s__law_row) (defScope s__law_row) .none kV5 dc5 pm5 an5 cd5 ct5), sl5⟩)
    (c5 : PySem.W.codeIn K cd5 "_law_row" = true)
    (k5 : PySem.W.keepIn K (.ref f5) = true)
    (a6 : PySem.W.nsIn K mainGlobals "less" = some (some (.ref f6)))
    (l6 : K.lookup f6 = some ⟨oc6, od6, .func (PySem.W.fnOf "less" "less" (defArgs s_less) (defBody s_less) (defScope s_less) .none kV6 dc6 pm6 an6 cd6 ct6), sl6⟩)
    (c6 : PySem.W.codeIn K cd6 "less" = true)
    (k6 : PySem.W.keepIn K (.ref f6) = true)
    (a7 : PySem.W.nsIn K mainGlobals "at_most" = some (some (.ref f7)))
    (l7 : K.lookup f7 = some ⟨oc7, od7, .func (PySem.W.fnOf "at_most" "at_most" (defArgs s_at_most) (defBody s_at_most) (defScope s_at_most) .none kV7 dc7 pm7 an7 cd7 ct7), sl7⟩)
    (c7 : PySem.W.codeIn K cd7 "at_most" = true)
    (k7 : PySem.W.keepIn K (.ref f7) = true)
    (a8 : PySem.W.nsIn K mainGlobals "law" = some (some (.ref f8)))
    (l8 : K.lookup f8 = some ⟨oc8, od8, .func (PySem.W.fnOf "law" "law" (defArgs s_law) (defBody s_law) (defScope s_law) .none kV8 dc8 pm8 an8 cd8 ct8), sl8⟩)
    (c8 : PySem.W.codeIn K cd8 "law" = true)
    (k8 : PySem.W.keepIn K (.ref f8) = true)
    (z_range : PySem.W.nsIn K mainGlobals "range" = some none)
    (z_int : PySem.W.nsIn K mainGlobals "int" = some none)
    (z_abs : PySem.W.nsIn K mainGlobals "abs" = some none)
    (z_max : PySem.W.nsIn K mainGlobals "max" = some none)
    (z_len : PySem.W.nsIn K mainGlobals "len" = some none)
    (z_isinstance : PySem.W.nsIn K mainGlobals "isinstance" = some none)
    (z_bool : PySem.W.nsIn K mainGlobals "bool" = some none)
    : ∃ fd : FuncData, (∀ (s : Shared) (v : Value), BindsTo s fd ⟨[v], []⟩ [("script", v)]) ∧ ∀ base : Heap, K.In base → base.Ns mainGlobals mg → FnOk l.prog w K mg base CX0 4 fa fd ["script"] (sp_law K) := by
  have e := hfa.symm.trans (PySem.W.mg_of X G a8)
  cases e
  have m_range : mg "range" = none := PySem.W.mg_none_of X G z_range
  have m_int : mg "int" = none := PySem.W.mg_none_of X G z_int
  have m_abs : mg "abs" = none := PySem.W.mg_none_of X G z_abs
  have m_max : mg "max" = none := PySem.W.mg_none_of X G z_max
  have m_len : mg "len" = none := PySem.W.mg_none_of X G z_len
  have m_isinstance : mg "isinstance" = none := PySem.W.mg_none_of X G z_isinstance
  have m_bool : mg "bool" = none := PySem.W.mg_none_of X G z_bool
  refine ⟨PySem.W.fnOf "law" "law" (defArgs s_law) (defBody s_law) (defScope s_law) .none kV8 dc8 pm8 an8 cd8 ct8, fun s v => .of_eq rfl, fun base _ _ => ?_⟩
  have F1 := fun_mk (st := s__law_long) l1 c1 k1
  have D__law_long : Dn l.prog w K mg base CX0 1 "_law_long" (sp__law_long K) := ⟨_, _, _, ok__law_long F1 m_range, PySem.W.mg_of X G a1, F1.kp, F1.binds (ps := ["row", "start", "many"]) fun _ _ _ _ _ _ us hl => match us, hl with | [_, _, _], _ => rfl⟩
  have F2 := fun_mk (st := s__law_gcd) l2 c2 k2
  have D__law_gcd : Dn l.prog w K mg base CX0 1 "_law_gcd" (sp__law_gcd K) := ⟨_, _, _, ok__law_gcd F2 m_range m_int, PySem.W.mg_of X G a2, F2.kp, F2.binds (ps := ["a", "b"]) fun _ _ _ _ _ _ us hl => match us, hl with | [_, _], _ => rfl⟩
  have F3 := fun_mk (st := s__law_lowest) l3 c3 k3
  have D__law_lowest : Dn l.prog w K mg base CX0 2 "_law_lowest" (sp__law_lowest K) := ⟨_, _, _, ok__law_lowest F3 D__law_gcd m_abs, PySem.W.mg_of X G a3, F3.kp, F3.binds (ps := ["p", "q"]) fun _ _ _ _ _ _ us hl => match us, hl with | [_, _], _ => rfl⟩
  have F4 := fun_mk (st := s__law_drawn) l4 c4 k4
  have D__law_drawn : Dn l.prog w K mg base CX0 3 "_law_drawn" (sp__law_drawn K) := ⟨_, _, _, ok__law_drawn F4 D__law_long D__law_lowest m_max m_int, PySem.W.mg_of X G a4, F4.kp, F4.binds (ps := ["row"]) fun _ _ _ _ _ _ us hl => match us, hl with | [_], _ => rfl⟩
  have F5 := fun_mk (st := s__law_row) l5 c5 k5
  have D__law_row : Dn l.prog w K mg base CX0 1 "_law_row" (sp__law_row K) := ⟨_, _, _, ok__law_row F5 m_range m_len m_int, PySem.W.mg_of X G a5, F5.kp, F5.binds (ps := ["script", "place", "many"]) fun _ _ _ _ _ _ us hl => match us, hl with | [_, _, _], _ => rfl⟩
  have F6 := fun_mk (st := s_less) l6 c6 k6
  have D_less : Dn l.prog w K mg base CX0 1 "less" (sp_less K) := ⟨_, _, _, ok_less F6, PySem.W.mg_of X G a6, F6.kp, F6.binds (ps := ["a", "b"]) fun _ _ _ _ _ _ us hl => match us, hl with | [_, _], _ => rfl⟩
  have F7 := fun_mk (st := s_at_most) l7 c7 k7
  have D_at_most : Dn l.prog w K mg base CX0 1 "at_most" (sp_at_most K) := ⟨_, _, _, ok_at_most F7, PySem.W.mg_of X G a7, F7.kp, F7.binds (ps := ["a", "b"]) fun _ _ _ _ _ _ us hl => match us, hl with | [_, _], _ => rfl⟩
  have F8 := fun_mk (st := s_law) l8 c8 k8
  exact ok_law F8 D__law_drawn D__law_row D__law_lowest D_less D_at_most m_range m_int m_isinstance m_bool
end BB
open PySem PySem.W PyProof.Rows
set_option maxHeartbeats 0 in
theorem PySem.Challenge.cw_buybook_k03_order_of_fractions_holds : PySem.Challenge.rw_buybook_k03_order_of_fractions.Holds := by
  w_on; o_law; k_head; (case hw => w_witness2)
  k_fill
  refine L2.walk_of (l := PySem.Challenge.rw_buybook_k03_order_of_fractions) (n := 63) (k := 4) (x := "script") (CX := fun _ => L2.CX0) (sp := fun w => BB.sp_law _) rfl (by decide) rfl ⟨rfl, by decide, by decide⟩ (fun w h Y => PySem.W.kIn_of Y) ?F (fun _ _ a ns hl _ hS => ⟨a, ns, rfl, hS, hl, fun _ => rfl⟩) (fun _ _ _ _ _ h => h)
  case F =>
    intro w mg fa h KX G hmg
    refine' BB.all_mk KX G hmg ?a1 ?l1 ?c1 ?k1 ?a2 ?l2 ?c2 ?k2 ?a3 ?l3 ?c3 ?k3 ?a4 ?l4 ?c4 ?k4 ?a5 ?l5 ?c5 ?k5 ?a6 ?l6 ?c6 ?k6 ?a7 ?l7 ?c7 ?k7 ?a8 ?l8 ?c8 ?k8 ?z_range ?z_int ?z_abs ?z_max ?z_len ?z_isinstance ?z_bool
    (case a1 => k_is); (case l1 => k_is); (case c1 => k_is); (case k1 => k_is); (case a2 => k_is); (case l2 => k_is); (case c2 => k_is); (case k2 => k_is); (case a3 => k_is); (case l3 => k_is); (case c3 => k_is); (case k3 => k_is); (case a4 => k_is); (case l4 => k_is); (case c4 => k_is); (case k4 => k_is); (case a5 => k_is); (case l5 => k_is); (case c5 => k_is); (case k5 => k_is); (case a6 => k_is); (case l6 => k_is); (case c6 => k_is); (case k6 => k_is); (case a7 => k_is); (case l7 => k_is); (case c7 => k_is); (case k7 => k_is); (case a8 => k_is); (case l8 => k_is); (case c8 => k_is); (case k8 => k_is); (case z_range => k_is); (case z_int => k_is); (case z_abs => k_is); (case z_max => k_is); (case z_len => k_is); (case z_isinstance => k_is); (case z_bool => k_is)
