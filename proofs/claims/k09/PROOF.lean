import PyProof.Rows.All
import Wide.All
import OpenK.AllK
import Wide.FinOn
import PySem.Challenge.RW_buybook_k09_heads
import HandS.ForMost
import HandS.Gcd
import HandS.Wide
import HandS.WideBits
import HandS.IsInst
import HandS.Codes
import HandS.Zip
import HandS.Style
import HandS.NoneIn
import HandS.StrMore
import HandS.FStr
import HandS.Exc
import HandS.ExcInit
import HandS.ExcIs
import HandS.ExcField
import HandS.ExcOwn
import HandS.ClsMeth
import HandS.TryOnly
import HandS.WordsExc
import HandS.Small
import HandS.Walk
set_option Elab.async false
set_option linter.all false
set_option maxRecDepth 100000
set_option maxHeartbeats 4000000
set_option exponentiation.threshold 300
/-! Num: fractions as rational numbers; Euclid's turns. -/
namespace BB

theorem num_mul_eq {p q : Int} (hq : q ≠ 0) : (Rat.divInt p q).num * q = p * ((Rat.divInt p q).den : Int) := by
  have h := Rat.num_divInt_den (Rat.divInt p q)
  have hd : ((Rat.divInt p q).den : Int) ≠ 0 := by
    have := (Rat.divInt p q).den_nz
    omega
  exact (Rat.divInt_eq_divInt_iff hd hq).mp h

/-- what ratio reckons -/
theorem ratio_num {p q : Int} (hq : q ≠ 0) : p.fdiv (if q < 0 then -((Nat.gcd p.natAbs q.natAbs : Nat) : Int) else ((Nat.gcd p.natAbs q.natAbs : Nat) : Int)) = (Rat.divInt p q).num := by
  have hg : 0 < Nat.gcd p.natAbs q.natAbs := Nat.gcd_pos_of_pos_right _ (by omega)
  have hdp : ((Nat.gcd p.natAbs q.natAbs : Nat) : Int) ∣ p := Int.ofNat_dvd_left.mpr (Nat.gcd_dvd_left _ _)
  rw [Rat.num_divInt]
  have e : q.gcd p = Nat.gcd p.natAbs q.natAbs := by rw [Int.gcd, Nat.gcd_comm]
  rw [e]
  obtain ⟨k, hk⟩ := hdp
  generalize hG : ((Nat.gcd p.natAbs q.natAbs : Nat) : Int) = G at *
  have hG0 : G ≠ 0 := by omega
  by_cases h : q < 0
  · rw [if_pos h, Int.sign_eq_neg_one_of_neg h, hk]
    rw [show -1 * (G * k) = G * (-k) by rw [Int.mul_neg]; omega, Int.mul_ediv_cancel_left _ hG0]
    rw [show G * k = (-G) * (-k) by rw [Int.neg_mul_neg], Int.mul_fdiv_cancel_left _ (by omega)]
  · rw [if_neg h, Int.sign_eq_one_of_pos (by omega), hk, Int.one_mul, Int.mul_ediv_cancel_left _ hG0, Int.mul_fdiv_cancel_left _ hG0]

theorem ratio_den {p q : Int} (hq : q ≠ 0) : q.fdiv (if q < 0 then -((Nat.gcd p.natAbs q.natAbs : Nat) : Int) else ((Nat.gcd p.natAbs q.natAbs : Nat) : Int)) = ((Rat.divInt p q).den : Int) := by
  have hg : 0 < Nat.gcd p.natAbs q.natAbs := Nat.gcd_pos_of_pos_right _ (by omega)
  have hdq : Nat.gcd p.natAbs q.natAbs ∣ q.natAbs := Nat.gcd_dvd_right _ _
  rw [Rat.den_divInt, if_neg hq]
  have e : q.gcd p = Nat.gcd p.natAbs q.natAbs := by rw [Int.gcd, Nat.gcd_comm]
  rw [e]
  obtain ⟨k, hk⟩ := hdq
  generalize hG : Nat.gcd p.natAbs q.natAbs = G at *
  rw [hk, Nat.mul_div_cancel_left _ hg]
  by_cases h : q < 0
  · rw [if_pos h]
    have : q = (-(G : Int)) * (k : Int) := by
      have h2 : (q.natAbs : Int) = -q := by omega
      rw [hk] at h2
      rw [Int.neg_mul, ← Int.natCast_mul]; omega
    rw [this, Int.mul_fdiv_cancel_left _ (by omega)]
  · rw [if_neg h]
    have : q = (G : Int) * (k : Int) := by
      have h2 : (q.natAbs : Int) = q := by omega
      rw [hk] at h2
      rw [← Int.natCast_mul]; omega
    rw [this, Int.mul_fdiv_cancel_left _ (by omega)]

theorem ratio_common {p q : Int} (hq : q ≠ 0) : (if q < 0 then -((Nat.gcd p.natAbs q.natAbs : Nat) : Int) else ((Nat.gcd p.natAbs q.natAbs : Nat) : Int)) ≠ 0 ∧
    (if q < 0 then -((Nat.gcd p.natAbs q.natAbs : Nat) : Int) else ((Nat.gcd p.natAbs q.natAbs : Nat) : Int)).natAbs ≤ q.natAbs := by
  have hg : 0 < Nat.gcd p.natAbs q.natAbs := Nat.gcd_pos_of_pos_right _ (by omega)
  have hl : Nat.gcd p.natAbs q.natAbs ≤ q.natAbs := Nat.le_of_dvd (by omega) (Nat.gcd_dvd_right _ _)
  split <;> omega

theorem rat_add (a b : Rat) : Rat.divInt (a.num * b.den + b.num * a.den) (a.den * b.den) = a + b := by
  rw [Rat.add_def', ← Int.natCast_mul, Rat.divInt_ofNat]
theorem rat_sub (a b : Rat) : Rat.divInt (a.num * b.den - b.num * a.den) (a.den * b.den) = a - b := by
  rw [Rat.sub_def', ← Int.natCast_mul, Rat.divInt_ofNat]
theorem rat_mul (a b : Rat) : Rat.divInt (a.num * b.num) (a.den * b.den) = a * b := by
  rw [Rat.mul_def', ← Int.natCast_mul, Rat.divInt_ofNat]
theorem rat_div (a b : Rat) : Rat.divInt (a.num * b.den) (a.den * b.num) = a / b := by
  rw [Rat.div_def, Rat.inv_def, ← Rat.divInt_mul_divInt, Rat.num_divInt_den]

/-! ### sizes -/
/-- numerator and denominator below 2 ^ n -/
def Sz (n : Nat) (r : Rat) : Prop := r.num.natAbs < 2 ^ n ∧ r.den < 2 ^ n
theorem Sz.mono {n m : Nat} {r : Rat} (h : Sz n r) (k : n ≤ m) : Sz m r :=
  ⟨Nat.lt_of_lt_of_le h.1 (Nat.pow_le_pow_right (by decide) k), Nat.lt_of_lt_of_le h.2 (Nat.pow_le_pow_right (by decide) k)⟩
theorem divInt_le {p q : Int} (hq : q ≠ 0) : (Rat.divInt p q).num.natAbs ≤ p.natAbs ∧ (Rat.divInt p q).den ≤ q.natAbs := by
  constructor
  · rw [Rat.num_divInt, Int.natAbs_ediv_of_dvd ?_]
    · rw [Int.natAbs_mul]
      have : q.sign.natAbs = 1 := Int.natAbs_sign_of_ne_zero hq
      rw [this, Nat.one_mul]
      exact Nat.div_le_self _ _
    · exact Int.dvd_mul_of_dvd_right (Int.gcd_dvd_right ..)
  · rw [Rat.den_divInt, if_neg hq]
    exact Nat.div_le_self _ _
theorem divInt_sz {p q : Int} {n : Nat} (hq : q ≠ 0) (h1 : p.natAbs < 2 ^ n) (h2 : q.natAbs < 2 ^ n) : Sz n (Rat.divInt p q) :=
  ⟨Nat.lt_of_le_of_lt (divInt_le hq).1 h1, Nat.lt_of_le_of_lt (divInt_le hq).2 h2⟩
theorem mul_lt_pow {x y a b : Nat} (h1 : x < 2 ^ a) (h2 : y < 2 ^ b) : x * y < 2 ^ (a + b) := by
  rw [Nat.pow_add]; exact Nat.mul_lt_mul'' h1 h2
theorem natAbs_mul_lt {x y : Int} {a b : Nat} (h1 : x.natAbs < 2 ^ a) (h2 : y.natAbs < 2 ^ b) : (x * y).natAbs < 2 ^ (a + b) := by
  rw [Int.natAbs_mul]; exact mul_lt_pow h1 h2
theorem natAbs_add_lt {x y : Int} {a : Nat} (h1 : x.natAbs < 2 ^ a) (h2 : y.natAbs < 2 ^ a) : (x + y).natAbs < 2 ^ (a + 1) := by
  rw [Nat.pow_succ]; omega
theorem natAbs_sub_lt {x y : Int} {a : Nat} (h1 : x.natAbs < 2 ^ a) (h2 : y.natAbs < 2 ^ a) : (x - y).natAbs < 2 ^ (a + 1) := by
  rw [Nat.pow_succ]; omega
theorem Sz.den {n : Nat} {r : Rat} (h : Sz n r) : ((r.den : Int)).natAbs < 2 ^ n := by
  have := h.2; omega
theorem den_pos (r : Rat) : (0 : Int) < (r.den : Int) := by have := r.den_nz; omega
theorem den_ne (r : Rat) : (r.den : Int) ≠ 0 := by have := r.den_nz; omega
theorem den_mul_pos (r s : Rat) : (0 : Int) < (r.den : Int) * (s.den : Int) := Int.mul_pos (den_pos r) (den_pos s)
theorem cross_lt {a b : Nat} {r s : Rat} (hr : Sz a r) (hs : Sz b s) : (r.num * (s.den : Int)).natAbs < 2 ^ (a + b) ∧ (s.num * (r.den : Int)).natAbs < 2 ^ (a + b) ∧ ((r.den : Int) * (s.den : Int)).natAbs < 2 ^ (a + b) :=
  ⟨natAbs_mul_lt hr.1 hs.den, by rw [Nat.add_comm]; exact natAbs_mul_lt hs.1 hr.den, natAbs_mul_lt hr.den hs.den⟩
theorem Sz.add {a b : Nat} {r s : Rat} (hr : Sz a r) (hs : Sz b s) : Sz (a + b + 1) (r + s) := by
  obtain ⟨h1, h2, h3⟩ := cross_lt hr hs
  rw [← rat_add]
  exact divInt_sz (Int.ne_of_gt (den_mul_pos r s)) (natAbs_add_lt h1 h2) (Nat.lt_of_lt_of_le h3 (Nat.pow_le_pow_right (by decide) (Nat.le_succ _)))
theorem Sz.sub {a b : Nat} {r s : Rat} (hr : Sz a r) (hs : Sz b s) : Sz (a + b + 1) (r - s) := by
  obtain ⟨h1, h2, h3⟩ := cross_lt hr hs
  rw [← rat_sub]
  exact divInt_sz (Int.ne_of_gt (den_mul_pos r s)) (natAbs_sub_lt h1 h2) (Nat.lt_of_lt_of_le h3 (Nat.pow_le_pow_right (by decide) (Nat.le_succ _)))
theorem Sz.mul {a b : Nat} {r s : Rat} (hr : Sz a r) (hs : Sz b s) : Sz (a + b) (r * s) := by
  rw [← rat_mul]
  exact divInt_sz (Int.ne_of_gt (den_mul_pos r s)) (natAbs_mul_lt hr.1 hs.1) (natAbs_mul_lt hr.den hs.den)
theorem Sz.neg {a : Nat} {r : Rat} (hr : Sz a r) : Sz a (-r) := ⟨by rw [Rat.neg_num, Int.natAbs_neg]; exact hr.1, by rw [Rat.neg_den]; exact hr.2⟩
theorem num_ne {r : Rat} (h : r ≠ 0) : r.num ≠ 0 := fun e => h (Rat.num_eq_zero.mp e)
theorem Sz.div {a b : Nat} {r s : Rat} (hr : Sz a r) (hs : Sz b s) (h0 : s ≠ 0) : Sz (a + b) (r / s) := by
  rw [← rat_div]
  exact divInt_sz (Int.mul_ne_zero (den_ne r) (num_ne h0)) (natAbs_mul_lt hr.1 hs.den) (natAbs_mul_lt hr.den hs.1)

/-! ### Euclid -/
/-- what stands after i turns, from a b below 2 ^ L -/
def Euc (L g i : Nat) (a b : Nat) : Prop := Nat.gcd a b = g ∧ (i % 2 = 0 → b < 2 ^ (L - i / 2)) ∧ (i % 2 = 1 → a < 2 ^ (L - i / 2) ∧ b < a)
theorem euc_start {L a b : Nat} (h : b < 2 ^ L) : Euc L (Nat.gcd a b) 0 a b := ⟨rfl, fun _ => h, fun h => by omega⟩
theorem euc_step {L g i a b : Nat} (h : Euc L g i a b) (hb : b ≠ 0) : Euc L g (i + 1) b (a % b) := by
  obtain ⟨hg, h0, h1⟩ := h
  refine ⟨?_, fun e => ?_, fun e => ?_⟩
  · rw [← hg, Nat.gcd_comm a b, Nat.gcd_rec b a, Nat.gcd_comm]
  · obtain ⟨ha, hba⟩ := h1 (by omega)
    have e1 : (i + 1) / 2 = i / 2 + 1 := by omega
    rw [e1]
    have hlt : a % b < b := Nat.mod_lt _ (by omega)
    have hle : a % b + b ≤ a := by
      have := Nat.div_add_mod a b
      have hd : 1 ≤ a / b := Nat.div_pos (by omega) (by omega)
      have : b * 1 ≤ b * (a / b) := Nat.mul_le_mul_left _ hd
      omega
    by_cases hz : L - i / 2 = 0
    · rw [hz] at ha; omega
    · rw [show L - i / 2 = (L - (i / 2 + 1)) + 1 by omega, Nat.pow_succ] at ha
      omega
  · have e1 : (i + 1) / 2 = i / 2 := by omega
    rw [e1]
    exact ⟨h0 (by omega), Nat.mod_lt _ (by omega)⟩
theorem euc_end {L g a b : Nat} (h : Euc L g (2 * L + 2) a b) : a = g := by
  obtain ⟨hg, h0, _⟩ := h
  have := h0 (by omega)
  rw [show L - (2 * L + 2) / 2 = 0 by omega] at this
  have : b = 0 := by omega
  subst this
  rw [← hg, Nat.gcd_zero_right]
theorem euc_zero {L g i a : Nat} (h : Euc L g i a 0) : a = g := by rw [← h.1, Nat.gcd_zero_right]

/-! ### rows -/
def dotR : List Rat → List Rat → Rat
  | r :: rs, s :: ss => r * s + dotR rs ss
  | _, _ => 0
theorem dotR_nil (ss : List Rat) : dotR [] ss = 0 := by cases ss <;> rfl
theorem dotR_take : ∀ (rs ss : List Rat) (i : Nat) (r s : Rat), rs[i]? = some r → ss[i]? = some s → dotR (rs.take (i + 1)) (ss.take (i + 1)) = dotR (rs.take i) (ss.take i) + r * s
  | [], _, _, _, _, h, _ => by simp at h
  | _ :: _, [], _, _, _, _, h => by simp at h
  | a :: rs, b :: ss, 0, r, s, h, h2 => by
    have e1 : a = r := Option.some.inj h
    have e2 : b = s := Option.some.inj h2
    subst e1 e2
    show a * b + dotR (rs.take 0) (ss.take 0) = dotR [] [] + a * b
    rw [List.take_zero, List.take_zero, dotR_nil]
    exact Rat.add_comm _ _
  | a :: rs, b :: ss, i + 1, r, s, h, h2 => by
    have ih := dotR_take rs ss i r s h h2
    show a * b + dotR (rs.take (i + 1)) (ss.take (i + 1)) = a * b + dotR (rs.take i) (ss.take i) + r * s
    rw [ih, Rat.add_assoc]
theorem sz_zero : Sz 1 (0 : Rat) := ⟨by decide, by decide⟩
theorem sz_one : Sz 1 (1 : Rat) := ⟨by decide, by decide⟩
theorem dotR_sz {B : Nat} : ∀ {rs ss : List Rat}, (∀ r ∈ rs, Sz B r) → (∀ s ∈ ss, Sz B s) → Sz (1 + rs.length * (2 * B + 1)) (dotR rs ss)
  | [], ss, _, _ => by rw [dotR_nil]; exact sz_zero.mono (by omega)
  | _ :: _, [], _, _ => sz_zero.mono (by omega)
  | a :: rs, b :: ss, h1, h2 => by
    have ih := dotR_sz (rs := rs) (ss := ss) (fun r hr => h1 r (List.mem_cons_of_mem _ hr)) (fun s hs => h2 s (List.mem_cons_of_mem _ hs))
    have m := (h1 a List.mem_cons_self).mul (h2 b List.mem_cons_self)
    refine (m.add ih).mono ?_
    have e : (rs.length + 1) * (2 * B + 1) = rs.length * (2 * B + 1) + (2 * B + 1) := Nat.succ_mul _ _
    rw [List.length_cons, e]
    generalize rs.length * (2 * B + 1) = n
    omega
theorem divInt_nonneg {p q : Int} (hp : 0 ≤ p) (hq : 0 < q) : 0 ≤ Rat.divInt p q := (Rat.divInt_nonneg_iff_of_pos_right hq).mpr hp
theorem divInt_pos {p q : Int} (hp : 0 < p) (hq : 0 < q) : 0 < Rat.divInt p q := by
  refine Rat.lt_of_le_of_ne (divInt_nonneg (by omega) hq) fun e => ?_
  have := num_mul_eq (p := p) (q := q) (by omega)
  rw [← e] at this
  have h2 : p = 0 := by simpa using this.symm
  omega
theorem num_pos {r : Rat} (h : 0 < r) : 0 < r.num := by
  have h1 := Rat.num_nonneg.mpr (Rat.le_of_lt h)
  have h2 : r.num ≠ 0 := num_ne fun e => by rw [e] at h; exact absurd h (by decide)
  omega
theorem num_nn {r : Rat} (h : 0 ≤ r) : 0 ≤ r.num := Rat.num_nonneg.mpr h
theorem pos_of {r : Rat} (h0 : 0 ≤ r) (h : r.num ≠ 0) : 0 < r := Rat.lt_of_le_of_ne h0 fun e => h (by rw [← e]; rfl)
theorem pow1000 (i : Nat) : 1000 ^ i ≤ 2 ^ (10 * i) := by
  rw [Nat.pow_mul]
  exact Nat.pow_le_pow_left (by decide) i
end BB

set_option maxHeartbeats 4000000
/-! Lay: short words of my own over the hand layer. -/
namespace BB
open PySem PySem.Spec PyProof.Rows L2

/-- a def of the module, by its name and its promise -/
structure Dn (P : Program) (w : World) (K : PySem.W.Frag) (mg : Str → Option Value) (base : Heap) (CX : CXT) (k : Nat) (x : Str) (sp : Sp) : Prop where
  ex : ∃ (f : Addr) (fd : FuncData) (ps : List Str), FnOk P w K mg base CX k f fd ps sp ∧ mg x = some (.ref f) ∧ PySem.W.keepIn K (.ref f) = true ∧ Binds K fd ps []

section
variable {X : Cx} {CX : CXT} {x : Str} {p pos : Pos} {e : Expr} {es : List Expr} {t : TA} {sp : Sp} {k j : Nat} {E : XK}
theorem pe_d (c : Dn X.prog X.w X.K X.mg X.base CX k x sp) (hr : Room j X.A) (hk : k ≤ j) (hg : Gl X x) (hx : Passes CX X E) (ha : PA X (e :: es) t)
    (hdb : (x == ("__debug__" : Str)) = false := by decide) (he : starEach (e :: es) X.env = (false, eval e X.env) :: starEach es X.env := by rfl) (hpl : (backTo pos (starEach es X.env)).any (·.1) = false := by rfl) :
    PE X (.Call (.Name x p) (e :: es) [] pos) (tCall sp [] E t) := by
  obtain ⟨f, fd, ps, F, hm, kp, b⟩ := c.ex
  exact pe_call F (hr.mono hk) hg hm kp b .nil hx ha hdb he hpl
end

/-! ### numbers -/
def CMulG (i j : Int) : Prop := IntMulOk i j
def CDivG (_ j : Int) : Prop := j ≠ 0 ∧ j.natAbs < 2 ^ 9000
section
variable {X : Cx}
theorem op_mulG : OpR X (binaryOp .Mult) (rI CMulG fun i j => .int (i * j)) := opI fun _ _ _ _ _ _ _ hc q => mul_int q hc
theorem op_fdivG : OpR X (binaryOp .FloorDiv) (rI CDivG fun i j => .int (i.fdiv j)) := opI fun _ j _ _ _ _ _ hc q =>
  floordiv_int hc.1 q (.inl (PyProof.noPylong_of_log2 (PySem.Flt.log2_lt_of (by decide) hc.2)))
end
theorem mulG_l {i j : Int} (h : i.natAbs < 2 ^ 60) : CMulG i j := (show CMul i j from .inl ⟨by omega, by omega⟩).ok
theorem mulG_r {i j : Int} (h : j.natAbs < 2 ^ 60) : CMulG i j := (show CMul i j from .inr ⟨by omega, by omega⟩).ok
theorem mulG_b {i j : Int} {a b : Nat} (ha : i.natAbs < 2 ^ a) (hb : j.natAbs < 2 ^ b) (h : a + b ≤ 134217728) : CMulG i j := (mulx_ok ha hb h).ok

theorem bits_lt {n L : Nat} (h : Builtin.Int.intBits (n : Int) = L) : n < 2 ^ L := by
  unfold Builtin.Int.intBits at h
  split at h
  · rename_i z
    have : n = 0 := by
      have := eq_of_beq z
      omega
    subst this
    exact Nat.pow_pos (by decide)
  · subst h
    rw [Int.natAbs_natCast]
    exact Nat.lt_log2_self
theorem bits_le {n m : Nat} (h : n < 2 ^ m) : Builtin.Int.intBits (n : Int) ≤ m + 1 := by
  unfold Builtin.Int.intBits
  split
  · omega
  · rename_i z
    rw [Int.natAbs_natCast]
    by_cases h0 : n = 0
    · subst h0; simp at z
    · have := (Nat.log2_lt h0).mpr h
      omega

/-! ### sequences, as they stand -/
theorem sqt_upd {K : PySem.W.Frag} {H : Hp} {a p : Addr} {xs : List V} {o : HO} (hp : H p = none) (h : SqT K H a xs) : SqT K (upd H p o) a xs := by
  rcases h with (h | ⟨o', h⟩) | h
  · exact .inl (.inl (by rw [upd_ne (ne_of_none h hp)]; exact h))
  · exact .inl (.inr ⟨o', by rw [upd_ne (ne_of_none h hp)]; exact h⟩)
  · exact .inr h
theorem sql_upd {K : PySem.W.Frag} {H : Hp} {a p : Addr} {xs : List V} {o : HO} (hp : H p = none) (h : SqL K H a xs) : SqL K (upd H p o) a xs := by
  rcases h with (h | ⟨o', h⟩) | h
  · exact .inl (.inl (by rw [upd_ne (ne_of_none h hp)]; exact h))
  · exact .inl (.inr ⟨o', by rw [upd_ne (ne_of_none h hp)]; exact h⟩)
  · exact .inr h
theorem sqt_same {K : PySem.W.Frag} {H H' : Hp} {a : Addr} {xs : List V} (e : Same H H') (h : SqT K H a xs) : SqT K H' a xs := by
  rcases h with (h | ⟨o', h⟩) | h
  · exact .inl (.inl (e _ _ h))
  · exact .inl (.inr ⟨o', e _ _ h⟩)
  · exact .inr h
theorem same_upd {H : Hp} {p : Addr} {o : HO} (h : H p = none) : Same H (upd H p o) := fun b x e => by
  rw [upd_ne (ne_of_none e h)]
  exact e
/-- a thing that H₀ did not know may change -/
theorem same_mut {H₀ H : Hp} {p : Addr} {o : HO} (e : Same H₀ H) (h : H₀ p = none) : Same H₀ (upd H p o) := fun b x z => by
  rw [upd_ne (ne_of_none z h)]
  exact e b x z
theorem none_upd {H : Hp} {p q : Addr} {o : HO} (h : (upd H p o) q = none) : H q = none ∧ q ≠ p := by
  by_cases e : q = p
  · subst e; rw [upd_same] at h; cases h
  · rw [upd_ne e] at h; exact ⟨h, e⟩

/-- a fraction that stands at a -/
def IsF (K : PySem.W.Frag) (H : Hp) (a : Addr) (r : Rat) : Prop := SqT K H a [.int r.num, .int (r.den : Int)]
/-- a new fraction -/
def rF (K : PySem.W.Frag) (H : Hp) (r : Rat) (Q : VK) : Prop := ∀ H' a, Same H H' → H a = none → IsF K H' a r → Q (.ref a) H'
theorem IsF.new {K : PySem.W.Frag} {H : Hp} {a p : Addr} {r : Rat} {o : HO} (hp : H p = none) (h : IsF K H a r) : IsF K (upd H p o) a r := sqt_upd hp h
theorem IsF.same {K : PySem.W.Frag} {H H' : Hp} {a : Addr} {r : Rat} (e : Same H H') (h : IsF K H a r) : IsF K H' a r := sqt_same e h
theorem tyT {K : PySem.W.Frag} {H : Hp} {a : Addr} {xs : List V} (h : SqT K H a xs) : TyX K H (.ref a) (.type "tuple") := by
  rcases h with (h | ⟨o', h⟩) | ⟨o, its, n, h, c, _⟩
  · exact .base (.tup h)
  · exact .fTuple h
  · exact .kTuple h c

theorem abs_nn (x : Int) : (0 : Int) ≤ (if x < 0 then -x else x) := by split <;> omega
theorem abs_na (x : Int) : (if x < 0 then -x else x).natAbs = x.natAbs := by split <;> omega
/-! ### drawn rows -/
def isRow (row : List Int) (m : Nat) : Prop := row.length = m ∧ ∀ v ∈ row, 0 ≤ v ∧ v < 1000
theorem isRow.snoc {row : List Int} {m : Nat} {v : Int} (h : isRow row m) (h0 : 0 ≤ v) (h1 : v < 1000) : isRow (row ++ [v]) (m + 1) := by
  refine ⟨by rw [List.length_append, h.1]; rfl, fun u hu => ?_⟩
  rcases List.mem_append.mp hu with hu | hu
  · exact h.2 u hu
  · rw [List.mem_singleton] at hu; subst hu; exact ⟨h0, h1⟩
theorem isRow.get {row : List Int} {n i : Nat} (h : isRow row n) (hi : i < n) : ∃ v, row[i]? = some v ∧ (row.map V.int)[i]? = some (.int v) ∧ 0 ≤ v ∧ v < 1000 := by
  have hl : i < row.length := by rw [h.1]; exact hi
  obtain ⟨h0, h1⟩ := h.2 _ (List.getElem_mem hl)
  exact ⟨row[i], List.getElem?_eq_getElem hl, by rw [List.getElem?_map, List.getElem?_eq_getElem hl]; rfl, h0, h1⟩
theorem isRow.at {row : List Int} {n : Nat} (h : isRow row n) (i : Nat) (hi : i < n) : ∃ v : Int, atI (row.map V.int) (i : Int) = some (.int v) ∧ 0 ≤ v ∧ v < 1000 := by
  obtain ⟨v, _, h2, h3, h4⟩ := h.get hi
  exact ⟨v, atI_nat h2, h3, h4⟩
/-- a row that grows at o -/
def RowAt (H H' : Hp) (o : Addr) (i : Nat) : Prop := H o = none ∧ Same H H' ∧ ∃ rw, isRow rw i ∧ H' o = some (.lst (rw.map V.int))
theorem RowAt.start {H : Hp} {o : Addr} (no : H o = none) : RowAt H (upd H o (.lst [])) o 0 := ⟨no, same_upd no, [], ⟨rfl, fun v hv => by cases hv⟩, upd_same⟩
theorem RowAt.push {H H' : Hp} {o : Addr} {i : Nat} {xs : List V} {z : Int} (r : RowAt H H' o i) (eo : H' o = some (.lst xs)) (h0 : 0 ≤ z) (h1 : z < 1000) : RowAt H (upd H' o (.lst (xs ++ [.int z]))) o (i + 1) := by
  obtain ⟨no, sm, rw, hr, e⟩ := r
  have e2 : xs = rw.map V.int := by
    rw [eo] at e
    exact HO.lst.inj (Option.some.inj e)
  refine ⟨no, same_mut sm no, rw ++ [z], hr.snoc h0 h1, ?_⟩
  rw [upd_same, e2, List.map_append]
  rfl

/-! ### cuts -/
theorem cut_id {D : Ends} {t u : TS} {σ : L2.St} {H : Hp} (Mid : L2.St → Hp → Prop) (h1 : t { D with nx := Mid } σ H) (h2 : ∀ σ' H', Mid σ' H' → u D σ' H') : C8.tCut t u D σ H := ⟨Mid, h1, h2⟩

/-! ### lists of fractions -/
theorem sqt_mut {K : PySem.W.Frag} {H : Hp} {a D : Addr} {xs zs : List V} {o : HO} (hD : H D = some (.lst zs)) (h : SqT K H a xs) : SqT K (upd H D o) a xs := by
  rcases h with (h | ⟨o', h⟩) | h
  · exact .inl (.inl (by rw [upd_ne (ne_of h hD (fun z => nomatch z))]; exact h))
  · exact .inl (.inr ⟨o', by rw [upd_ne (ne_of h hD (fun z => nomatch z))]; exact h⟩)
  · exact .inr h
theorem IsF.mut {K : PySem.W.Frag} {H : Hp} {a D : Addr} {r : Rat} {zs : List V} {o : HO} (hD : H D = some (.lst zs)) (h : IsF K H a r) : IsF K (upd H D o) a r := sqt_mut hD h
/-- fractions, one by one -/
def Fs (K : PySem.W.Frag) (H : Hp) (as : List Addr) (rs : List Rat) : Prop := as.length = rs.length ∧ ∀ (i : Nat) (a : Addr) (r : Rat), as[i]? = some a → rs[i]? = some r → IsF K H a r
theorem Fs.nil {K : PySem.W.Frag} {H : Hp} : Fs K H [] [] := ⟨rfl, fun i a r h _ => by simp at h⟩
theorem Fs.same {K : PySem.W.Frag} {H H' : Hp} {as : List Addr} {rs : List Rat} (e : Same H H') (h : Fs K H as rs) : Fs K H' as rs := ⟨h.1, fun i a r h1 h2 => (h.2 i a r h1 h2).same e⟩
theorem Fs.mut {K : PySem.W.Frag} {H : Hp} {D : Addr} {zs : List V} {o : HO} {as : List Addr} {rs : List Rat} (hD : H D = some (.lst zs)) (h : Fs K H as rs) : Fs K (upd H D o) as rs := ⟨h.1, fun i a r h1 h2 => (h.2 i a r h1 h2).mut hD⟩
theorem Fs.snoc {K : PySem.W.Frag} {H : Hp} {as : List Addr} {rs : List Rat} {a : Addr} {r : Rat} (h : Fs K H as rs) (x : IsF K H a r) : Fs K H (as ++ [a]) (rs ++ [r]) := by
  refine ⟨by rw [List.length_append, List.length_append, h.1]; rfl, fun i b q h1 h2 => ?_⟩
  have hl := h.1
  rcases Nat.lt_or_ge i as.length with hi | hi
  · rw [List.getElem?_append_left hi] at h1
    rw [List.getElem?_append_left (by omega)] at h2
    exact h.2 i b q h1 h2
  · rw [List.getElem?_append_right hi] at h1
    rw [List.getElem?_append_right (by omega)] at h2
    have hi2 : i - as.length = 0 := by
      have := (List.getElem?_eq_some_iff.mp h1).1
      rw [List.length_singleton] at this
      omega
    rw [hi2] at h1
    rw [show i - rs.length = 0 by omega] at h2
    have e1 : a = b := Option.some.inj h1
    have e2 : r = q := Option.some.inj h2
    rw [← e1, ← e2]
    exact x
/-- a list, at l, of these fractions -/
def FsAt (K : PySem.W.Frag) (H : Hp) (l : Addr) (rs : List Rat) : Prop := ∃ as : List Addr, SqL K H l (as.map V.ref) ∧ Fs K H as rs
theorem FsAt.same {K : PySem.W.Frag} {H H' : Hp} {l : Addr} {rs : List Rat} (e : Same H H') (h : FsAt K H l rs) : FsAt K H' l rs := let ⟨as, h1, h2⟩ := h; ⟨as, e.seq h1, h2.same e⟩
/-- the same, tracked -/
def NewFs (K : PySem.W.Frag) (H : Hp) (l : Addr) (rs : List Rat) : Prop := ∃ as : List Addr, H l = some (.lst (as.map V.ref)) ∧ Fs K H as rs
theorem NewFs.at {K : PySem.W.Frag} {H : Hp} {l : Addr} {rs : List Rat} (h : NewFs K H l rs) : FsAt K H l rs := let ⟨as, h1, h2⟩ := h; ⟨as, SqL.of h1, h2⟩
theorem NewFs.same {K : PySem.W.Frag} {H H' : Hp} {l : Addr} {rs : List Rat} (e : Same H H') (h : NewFs K H l rs) : NewFs K H' l rs := let ⟨as, h1, h2⟩ := h; ⟨as, e _ _ h1, h2.same e⟩
def rFs (K : PySem.W.Frag) (H : Hp) (rs : List Rat) (Q : VK) : Prop := ∀ H' l, Same H H' → H l = none → NewFs K H' l rs → Q (.ref l) H'
/-- its places -/
theorem Fs.get {K : PySem.W.Frag} {H : Hp} {as : List Addr} {rs : List Rat} (h : Fs K H as rs) {i : Nat} (hi : i < rs.length) : ∃ a r, as[i]? = some a ∧ (as.map V.ref)[i]? = some (.ref a) ∧ rs[i]? = some r ∧ IsF K H a r := by
  have hl : i < as.length := by rw [h.1]; exact hi
  exact ⟨as[i], rs[i], List.getElem?_eq_getElem hl, by rw [List.getElem?_map, List.getElem?_eq_getElem hl]; rfl, List.getElem?_eq_getElem hi, h.2 i _ _ (List.getElem?_eq_getElem hl) (List.getElem?_eq_getElem hi)⟩
theorem Fs.of {K : PySem.W.Frag} {H : Hp} {as : List Addr} {rs : List Rat} (h : Fs K H as rs) {i : Nat} {x : V} (hx : (as.map V.ref)[i]? = some x) : ∃ a r, x = .ref a ∧ as[i]? = some a ∧ rs[i]? = some r ∧ IsF K H a r ∧ i < rs.length := by
  have hi : i < as.length := by
    have := (List.getElem?_eq_some_iff.mp hx).1
    rw [List.length_map] at this
    exact this
  have hi2 : i < rs.length := by rw [← h.1]; exact hi
  obtain ⟨a, r, e1, e2, e3, e4⟩ := h.get hi2
  rw [hx] at e2
  exact ⟨a, r, Option.some.inj e2, e1, e3, e4, hi2⟩
/-- a list of fractions that grows at D, over H₀ -/
structure Grow (K : PySem.W.Frag) (H₀ H : Hp) (D : Addr) (rs : List Rat) : Prop where
  new : H₀ D = none
  same : Same H₀ H
  ex : NewFs K H D rs
theorem Grow.start {K : PySem.W.Frag} {H : Hp} {D : Addr} (hD : H D = none) : Grow K H (upd H D (.lst [])) D [] := ⟨hD, same_upd hD, [], upd_same, .nil⟩
theorem Grow.step {K : PySem.W.Frag} {H₀ H H1 : Hp} {D a : Addr} {rs : List Rat} {r : Rat} (g : Grow K H₀ H D rs) (s : Same H H1) (x : IsF K H1 a r) (hl : rs.length ≤ 1000) :
    ∃ acc, H1 D = some (.lst acc) ∧ acc.length < sizeLine ∧ Grow K H₀ (upd H1 D (.lst (acc ++ [.ref a]))) D (rs ++ [r]) := by
  obtain ⟨n, sm, as, e, f⟩ := g
  have e1 := s _ _ e
  refine ⟨as.map V.ref, e1, ?_, n, same_mut (sm.trans s) n, as ++ [a], ?_, ((f.same s).snoc x).mut e1⟩
  · rw [List.length_map, f.1]
    exact small1000 hl
  · rw [upd_same, List.map_append]
    rfl
theorem Grow.fs {K : PySem.W.Frag} {H₀ H : Hp} {D l : Addr} {rs ss : List Rat} (g : Grow K H₀ H D rs) (h : FsAt K H₀ l ss) : FsAt K H l ss := h.same g.same

/-- a comprehension over zip of two lists of one length -/
theorem lc_zipL {K : PySem.W.Frag} {a b : Addr} {xs ys : List V} {g : TG} {tt : TT} {te : TE} {vs : List Nat} {σ : L2.St} {H1 : Hp} {D : Addr} {Qd : Hp → Prop} (hl : xs.length = ys.length) (Pv : Nat → Hp → Prop) (h0 : Pv 0 (upd H1 D (.lst []))) (hq : ∀ i H, Pv i H → SqL K H a xs ∧ SqL K H b ys)
    (hs : ∀ (i : Nat) (x y : V) (T : Addr) (H : Hp), xs[i]? = some x → ys[i]? = some y → Pv i H → H T = none → g (.ref T) (wipe σ vs) (upd H T (.tup [x, y])) fun σ2 H2 => wipe σ2 vs = wipe σ vs ∧ tt σ2 H2 fun b H3 =>
      if b = true then te σ2 H3 fun y H4 => ∃ acc, H4 D = some (.lst acc) ∧ acc.length < sizeLine ∧ Pv (i + 1) (upd H4 D (.lst (acc ++ [y]))) else Pv (i + 1) H3) (hd : ∀ H, Pv xs.length H → Qd H) :
    ∃ W : Nat → Nat → Hp → Prop, (∃ m, W 0 m (upd H1 D (.lst []))) ∧ ∀ i m H, W i m H →
      ((Itz K a b).stop i H ∧ Qd H) ∨ ((Itz K a b).go i H ∧ ∃ Nx : Hp → Prop, (∀ H', Nx H' → ∃ m', m' < m ∧ W (i + 1) m' H') ∧ ∀ x H', (Itz K a b).yld i H x H' → g x (wipe σ vs) H' fun σ2 H2 => wipe σ2 vs = wipe σ vs ∧ tt σ2 H2 fun b H3 =>
        if b = true then te σ2 H3 fun y H4 => ∃ acc, H4 D = some (.lst acc) ∧ acc.length < sizeLine ∧ Nx (upd H4 D (.lst (acc ++ [y]))) else Nx H3) := by
  refine ⟨fun i m H => m = xs.length - i ∧ i ≤ xs.length ∧ Pv i H, ⟨xs.length, rfl, Nat.zero_le _, h0⟩, ?_⟩
  rintro i m H ⟨rfl, hi, p⟩
  obtain ⟨qx, qy⟩ := hq i H p
  by_cases hlt : i < xs.length
  · have hx : xs[i]? = some xs[i] := List.getElem?_eq_getElem hlt
    have hlt2 : i < ys.length := by omega
    have hy : ys[i]? = some ys[i] := List.getElem?_eq_getElem hlt2
    refine .inr ⟨⟨xs, ys, _, _, qx, qy, hx, hy⟩, Pv (i + 1), fun H' p' => ⟨xs.length - (i + 1), by omega, rfl, hlt, p'⟩, fun v H' y => ?_⟩
    obtain ⟨T, x', y', rfl, hT, rfl, f1, f2⟩ := y
    exact hs i x' y' T H (f1 xs qx) (f2 ys qy) p hT
  · have e : i = xs.length := by omega
    subst e
    exact .inl ⟨⟨xs, ys, qx, qy, Or.inl (Nat.le_refl _)⟩, hd H p⟩

/-! ### data, for == -/
def fD (r : Rat) : PyData := .tuple [.int r.num, .int (r.den : Int)]
theorem dp_f {K : PySem.W.Frag} {H : Hp} {a : Addr} {r : Rat} (h : IsF K H a r) : Dp K H (.ref a) (fD r) := .tup h (.cons (.int _) (.cons (.int _) .nil))
theorem dpAll_f {K : PySem.W.Frag} {H : Hp} : ∀ (as : List Addr) (rs : List Rat), Fs K H as rs → DpAll K H (as.map V.ref) (rs.map fD)
  | [], [], _ => .nil
  | [], _ :: _, h => by have := h.1; simp at this
  | _ :: _, [], h => by have := h.1; simp at this
  | a :: as, r :: rs, h => .cons (dp_f (h.2 0 a r rfl rfl)) (dpAll_f as rs ⟨by have := h.1; simp at this; exact this, fun i b q h1 h2 => h.2 (i + 1) b q h1 h2⟩)
theorem dp_fs {K : PySem.W.Frag} {H : Hp} {l : Addr} {rs : List Rat} (h : FsAt K H l rs) : Dp K H (.ref l) (.list (rs.map fD)) := let ⟨_, h1, h2⟩ := h; .lst h1 (dpAll_f _ _ h2)
theorem canLay_f : ∀ rs : List Rat, PyData.canLayAll0 (rs.map fD) = true
  | [] => rfl
  | r :: rs => by
    show (PyData.canLay0 (fD r) && PyData.canLayAll0 (rs.map fD)) = true
    rw [canLay_f rs]
    rfl
theorem depth_f : ∀ rs : List Rat, PyData.depthAll (rs.map fD) ≤ 1
  | [] => Nat.zero_le _
  | r :: rs => by
    show max (PyData.depth (fD r)) (PyData.depthAll (rs.map fD)) ≤ 1
    exact Nat.max_le.mpr ⟨Nat.le_refl 1, depth_f rs⟩
theorem shaped_fs (rs : List Rat) : SeqAt.shaped (.list (rs.map fD)) = true := by
  unfold SeqAt.shaped
  rw [show PyData.canLay0 (.list (rs.map fD)) = PyData.canLayAll0 (rs.map fD) from rfl, canLay_f, Bool.true_and]
  refine decide_eq_true ?_
  show PyData.depthAll (rs.map fD) + 1 ≤ 64
  have := depth_f rs
  omega
theorem eqv_fs (rs : List Rat) : PyData.eqv (.list (rs.map fD)) (.list (rs.map fD)) = true := SeqAt.eqv_refl _ (canLay_f rs)

/-- a text, sign by sign -/
theorem for_sgn {x : Str} {g : TG} {tb : TS} {D : Ends} {σ : L2.St} {H : Hp} (Pv : Nat → L2.St → Hp → Prop) (h0 : Pv 0 σ H)
    (turn : ∀ (i c : Nat) (σ : L2.St) (H : Hp), x.cps[i]? = some c → Pv i σ H → g (.str ⟨#[c]⟩) σ H fun σ2 H2 => tb { D with nx := Pv (i + 1), ct := Pv (i + 1), bk := D.nx } σ2 H2) (fin : ∀ σ H, Pv x.cps.size σ H → D.nx σ H) :
    ∃ W : Nat → Nat → L2.St → Hp → Prop, (∃ m, W 0 m σ H) ∧ ∀ i m σ H, W i m σ H →
      ((Its x).stop i H ∧ D.nx σ H) ∨ ((Its x).go i H ∧ ∃ N : L2.St → Hp → Prop, (∀ σ' H', N σ' H' → ∃ m', m' < m ∧ W (i + 1) m' σ' H') ∧ ∀ v H', (Its x).yld i H v H' → g v σ H' fun σ2 H2 => tb { D with nx := N, ct := N, bk := D.nx } σ2 H2) := by
  refine ⟨fun i m σ H => m + i = x.cps.size ∧ Pv i σ H, ⟨x.cps.size, rfl, h0⟩, ?_⟩
  rintro i m σ H ⟨em, p⟩
  rcases Nat.lt_or_ge i x.cps.size with hlt | hge
  · refine .inr ⟨hlt, Pv (i + 1), fun σ' H' p' => ⟨m - 1, by omega, by omega, p'⟩, ?_⟩
    rintro v H' ⟨rfl, c, hc, rfl⟩
    exact turn i c σ H' hc p
  · have e : i = x.cps.size := by omega
    subst e
    exact .inl ⟨Nat.le_refl _, fin σ H p⟩
end BB

set_option maxHeartbeats 4000000
/-! Dat: nested data, how it stands, what is new of it, lists of it that grow. -/
namespace BB
open PySem PySem.Spec PyProof.Rows L2
variable {K : PySem.W.Frag}

mutual
theorem dp_same {H H' : Hp} (e : Same H H') : ∀ {v : V} {d : PyData}, Dp K H v d → Dp K H' v d
  | _, _, .non => .non
  | _, _, .bl b => .bl b
  | _, _, .int i => .int i
  | _, _, .str x => .str x
  | _, _, .lst h a => .lst (e.seq h) (dpa_same e a)
  | _, _, .tup h a => .tup (sqt_same e h) (dpa_same e a)
theorem dpa_same {H H' : Hp} (e : Same H H') : ∀ {vs : List V} {ds : List PyData}, DpAll K H vs ds → DpAll K H' vs ds
  | _, _, .nil => .nil
  | _, _, .cons a b => .cons (dp_same e a) (dpa_same e b)
end
theorem dp_lst {H : Hp} {v : V} {ds : List PyData} (h : Dp K H v (.list ds)) : ∃ a xs, v = .ref a ∧ SqL K H a xs ∧ DpAll K H xs ds := by
  cases h with
  | lst h a => exact ⟨_, _, rfl, h, a⟩
theorem dp_tup {H : Hp} {v : V} {ds : List PyData} (h : Dp K H v (.tuple ds)) : ∃ a xs, v = .ref a ∧ SqT K H a xs ∧ DpAll K H xs ds := by
  cases h with
  | tup h a => exact ⟨_, _, rfl, h, a⟩
theorem dp_int {H : Hp} {v : V} {i : Int} (h : Dp K H v (.int i)) : v = .int i := by cases h; rfl
theorem dp_bl {H : Hp} {v : V} {b : Bool} (h : Dp K H v (.bool b)) : v = .bl b := by cases h; rfl
theorem dp_str {H : Hp} {v : V} {x : Str} (h : Dp K H v (.str x)) : v = .str x := by cases h; rfl
theorem dp_non {H : Hp} {v : V} (h : Dp K H v .none) : v = .non := by cases h; rfl
theorem dpa_len {H : Hp} : ∀ {xs : List V} {ds : List PyData}, DpAll K H xs ds → xs.length = ds.length
  | _, _, .nil => rfl
  | _, _, .cons _ b => congrArg (· + 1) (dpa_len b)
theorem dpa_get {H : Hp} : ∀ {xs : List V} {ds : List PyData} {i : Nat} {d : PyData}, DpAll K H xs ds → ds[i]? = some d → ∃ x, xs[i]? = some x ∧ Dp K H x d
  | _, _, _, _, .nil, e => by simp at e
  | _, _, 0, _, .cons a _, e => by
    cases Option.some.inj e
    exact ⟨_, rfl, a⟩
  | _, _, i + 1, _, .cons _ b, e => dpa_get (i := i) b e
theorem dpa_got {H : Hp} : ∀ {xs : List V} {ds : List PyData} {i : Nat} {x : V}, DpAll K H xs ds → xs[i]? = some x → ∃ d, ds[i]? = some d ∧ Dp K H x d
  | _, _, _, _, .nil, e => by simp at e
  | _, _, 0, _, .cons a _, e => by
    cases Option.some.inj e
    exact ⟨_, rfl, a⟩
  | _, _, i + 1, _, .cons _ b, e => dpa_got (i := i) b e
theorem dpa_snoc {H : Hp} {v : V} {d : PyData} (x : Dp K H v d) : ∀ {xs : List V} {ds : List PyData}, DpAll K H xs ds → DpAll K H (xs ++ [v]) (ds ++ [d])
  | _, _, .nil => .cons x .nil
  | _, _, .cons a b => .cons a (dpa_snoc x b)
theorem dpa_one {H : Hp} {xs : List V} {d : PyData} (h : DpAll K H xs [d]) : ∃ v, xs = [v] ∧ Dp K H v d := by
  cases h with
  | cons a b => cases b; exact ⟨_, rfl, a⟩
theorem dpa_two {H : Hp} {xs : List V} {d e : PyData} (h : DpAll K H xs [d, e]) : ∃ v w, xs = [v, w] ∧ Dp K H v d ∧ Dp K H w e := by
  cases h with
  | cons a b => obtain ⟨w, rfl, y⟩ := (dpa_one b); exact ⟨_, _, rfl, a, y⟩
theorem dpa_three {H : Hp} {xs : List V} {d e f : PyData} (h : DpAll K H xs [d, e, f]) : ∃ v w x, xs = [v, w, x] ∧ Dp K H v d ∧ Dp K H w e ∧ Dp K H x f := by
  cases h with
  | cons a b => obtain ⟨w, x, rfl, y, z⟩ := (dpa_two b); exact ⟨_, _, _, rfl, a, y, z⟩
/-- data without None, of a depth below n -/
def plain : Nat → PyData → Prop
  | 0, _ => False
  | _ + 1, .none => False
  | _ + 1, .bool _ => True
  | _ + 1, .int _ => True
  | _ + 1, .str _ => True
  | n + 1, .list ds => ds.length ≤ 1000000 ∧ ∀ d ∈ ds, plain n d
  | n + 1, .tuple ds => ds.length ≤ 1000000 ∧ ∀ d ∈ ds, plain n d
  | _ + 1, .dict _ => False
theorem plain.succ : ∀ {n : Nat} {d : PyData}, plain n d → plain (n + 1) d
  | 0, _, h => h.elim
  | _ + 1, .none, h => h
  | _ + 1, .bool _, _ => trivial
  | _ + 1, .int _, _ => trivial
  | _ + 1, .str _, _ => trivial
  | n + 1, .list ds, h => ⟨h.1, fun d hd => plain.succ (n := n) (h.2 d hd)⟩
  | n + 1, .tuple ds, h => ⟨h.1, fun d hd => plain.succ (n := n) (h.2 d hd)⟩
  | _ + 1, .dict _, h => h
theorem plain.mono {n m : Nat} {d : PyData} (h : plain n d) (k : n ≤ m) : plain m d := by
  obtain ⟨j, rfl⟩ := Nat.le.dest k
  induction j with
  | zero => exact h
  | succ j ih => exact (ih (Nat.le_add_right _ _)).succ
/-- the kind, for isinstance -/
theorem tyL {H : Hp} {a : Addr} {xs : List V} (h : SqL K H a xs) : TyX K H (.ref a) (.type "list") := by
  rcases h with (h | ⟨o', h⟩) | ⟨o, its, n, h, c, _⟩
  · exact .base (.lst h)
  · exact .base (.frz h)
  · exact .kList h c

/-! ### fractions -/
theorem isF_of {H : Hp} {v : V} {r : Rat} (h : Dp K H v (fD r)) : ∃ a, v = .ref a ∧ IsF K H a r := by
  obtain ⟨a, xs, rfl, hs, ha⟩ := dp_tup h
  obtain ⟨v, w, rfl, e1, e2⟩ := dpa_two ha
  cases (dp_int e1)
  cases (dp_int e2)
  exact ⟨a, rfl, hs⟩
def fsD (rs : List Rat) : PyData := .list (rs.map fD)
theorem fsAt_of {H : Hp} {v : V} {rs : List Rat} (h : Dp K H v (fsD rs)) : ∃ l, v = .ref l ∧ FsAt K H l rs := by
  obtain ⟨a, xs, rfl, hs, ha⟩ := dp_lst h
  suffices h : ∀ (xs : List V) (rs : List Rat), DpAll K H xs (rs.map fD) → ∃ as : List Addr, xs = as.map V.ref ∧ Fs K H as rs by
    obtain ⟨as, rfl, f⟩ := h xs rs ha
    exact ⟨a, rfl, as, hs, f⟩
  intro xs rs
  induction rs generalizing xs with
  | nil =>
    intro h
    cases h
    exact ⟨[], rfl, .nil⟩
  | cons r rs ih =>
    intro h
    cases h with
    | cons a b =>
      obtain ⟨x, rfl, hx⟩ := isF_of a
      obtain ⟨as, rfl, f⟩ := ih _ b
      refine ⟨x :: as, rfl, by simp [f.1], fun i a q h1 h2 => ?_⟩
      cases i with
      | zero =>
        cases Option.some.inj h1
        cases Option.some.inj h2
        exact hx
      | succ i => exact f.2 i a q h1 h2

theorem mk_numD {p : Int} {q : Nat} (hq : q ≠ 0) (hg : Nat.gcd p.natAbs q = 1) : (Rat.divInt p (q : Int)).num = p ∧ (Rat.divInt p (q : Int)).den = q := by
  have e : Rat.divInt p (q : Int) = ⟨p, q, hq, hg⟩ := by rw [Rat.mk_eq_divInt]
  rw [e]
  exact ⟨rfl, rfl⟩
theorem int_num (n : Int) : (Rat.divInt n 1).num = n ∧ (Rat.divInt n 1).den = 1 := by
  have h := mk_numD (p := n) (q := 1) (by decide) (Nat.gcd_one_right _)
  exact h
theorem int_f {H : Hp} {p : Addr} {n : Int} (h : SqT K H p [.int n, .int 1]) : IsF K H p (Rat.divInt n 1) := by
  unfold IsF
  rw [(int_num n).1, (int_num n).2]
  exact h
theorem ixN_nat {n i : Nat} (h : i < n) : ixN n (i : Int) = some i := by
  unfold ixN
  simp [h]
theorem atI_mod {α : Type} {xs : List α} {n : Int} (hn : 0 < n) (h : (xs.length : Int) = n) (v : Int) : ∃ x, x ∈ xs ∧ atI xs (v % n) = some x := by
  obtain ⟨k, ek⟩ := Int.eq_ofNat_of_zero_le (Int.emod_nonneg v (show n ≠ 0 by omega))
  have h1 := Int.emod_lt_of_pos v hn
  have hk : k < xs.length := by omega
  refine ⟨xs[k], List.getElem_mem hk, ?_⟩
  rw [ek]
  exact atI_nat (List.getElem?_eq_getElem hk)
theorem atI_last {α : Type} {xs : List α} {x : α} (h : xs[xs.length - 1]? = some x) : atI xs (-1) = some x := by
  have hl := (List.getElem?_eq_some_iff.mp h).1
  unfold atI ixN
  rw [if_neg (by decide), if_pos (by omega)]
  show xs[(-1 + (xs.length : Int)).toNat]? = some x
  rw [show (-1 + (xs.length : Int)).toNat = xs.length - 1 by omega]
  exact h
/-! ### what is new -/
/-- not there, or a tuple: what no one changes -/
def soft : Option HO → Bool
  | none => true
  | some (.tup _) => true
  | some (.frz _ (.tup _)) => true
  | _ => false
/-- the part of H' that H does not know, with its tuples -/
def fresh (H H' : Hp) : Hp := fun b => if soft (H b) = true then H' b else none
theorem fresh_sub {H H' : Hp} : Same (fresh H H') H' := fun b o e => by
  unfold fresh at e
  split at e
  · exact e
  · cases e
theorem fresh_soft {H H' : Hp} {b : Addr} (h : soft (H b) = true) : fresh H H' b = H' b := if_pos h
theorem fresh_at {H H' : Hp} {b : Addr} (h : H b = none) : fresh H H' b = H' b := fresh_soft (by rw [h]; rfl)
theorem fresh_hard {H H' : Hp} {b : Addr} (h : soft (H b) = false) : fresh H H' b = none := if_neg (by rw [h]; exact Bool.noConfusion)
theorem soft_old {H₀ H : Hp} (e : Same H₀ H) {b : Addr} (h : soft (H b) = true) : soft (H₀ b) = true := by
  cases z : H₀ b with
  | none => rfl
  | some o =>
    rw [e _ _ z] at h
    exact h
theorem fresh_mono {H H1 H2 : Hp} (e : Same H1 H2) : Same (fresh H H1) (fresh H H2) := fun b o q => by
  cases z : soft (H b) with
  | true =>
    rw [fresh_soft z] at q ⊢
    exact e _ _ q
  | false =>
    rw [fresh_hard z] at q
    cases q
theorem fresh_old {H₀ H H' : Hp} (e : Same H₀ H) : Same (fresh H H') (fresh H₀ H') := fun b o q => by
  cases z : soft (H b) with
  | true =>
    rw [fresh_soft z] at q
    rw [fresh_soft (soft_old e z)]
    exact q
  | false =>
    rw [fresh_hard z] at q
    cases q
/-- a result that is wholly new -/
def rD (K : PySem.W.Frag) (H : Hp) (d : PyData) (Q : VK) : Prop := ∀ (H' : Hp) (v : V), Same H H' → Dp K (fresh H H') v d → Q v H'
/-- .. without the things at Ds -/
def but (H : Hp) (Ds : List Addr) : Hp := fun b => if b ∈ Ds then none else H b
theorem but_sub {H : Hp} {Ds : List Addr} : Same (but H Ds) H := fun b o e => by
  unfold but at e
  split at e
  · cases e
  · exact e
theorem but_mono {H H' : Hp} {Ds : List Addr} (e : Same H H') : Same (but H Ds) (but H' Ds) := fun b o q => by
  unfold but at q ⊢
  split at q
  · cases q
  · rename_i z; rw [if_neg z]; exact e _ _ q
theorem but_at {H : Hp} {Ds : List Addr} {b : Addr} (h : b ∉ Ds) : but H Ds b = H b := if_neg h
theorem but_upd {H₀ H : Hp} {Ds : List Addr} {D : Addr} {o : HO} (hD : D ∈ Ds) : but (fresh H₀ (upd H D o)) Ds = but (fresh H₀ H) Ds := by
  funext b
  unfold but fresh
  split
  · rfl
  · rename_i z
    split
    · rw [upd_ne (fun q => z (by rw [q]; exact hD))]
    · rfl
/-- what a call made new stands apart from what grows -/
theorem new_in {H₀ H H' : Hp} {Ds : List Addr} {v : V} {d : PyData} (e : Same H₀ H) (hD : ∀ D ∈ Ds, soft (H D) = false) (h : Dp K (fresh H H') v d) : Dp K (but (fresh H₀ H') Ds) v d := by
  refine dp_same (fun b o q => ?_) h
  cases z : soft (H b) with
  | false =>
    rw [fresh_hard z] at q
    cases q
  | true =>
    rw [but_at (fun y => by rw [hD b y] at z; cases z)]
    exact fresh_old e b o q
/-- a list at D that grows, over H₀, beside the others at Ds -/
def Gr (K : PySem.W.Frag) (H₀ H : Hp) (Ds : List Addr) (D : Addr) (ds : List PyData) : Prop :=
  D ∈ Ds ∧ H₀ D = none ∧ ∃ xs, H D = some (.lst xs) ∧ DpAll K (but (fresh H₀ H) Ds) xs ds
theorem Gr.same {H₀ H H' : Hp} {Ds : List Addr} {D : Addr} {ds : List PyData} (e : Same H H') (g : Gr K H₀ H Ds D ds) : Gr K H₀ H' Ds D ds :=
  let ⟨a, b, xs, h, c⟩ := g; ⟨a, b, xs, e _ _ h, dpa_same (but_mono (fresh_mono e)) c⟩
theorem Gr.hard {H₀ H : Hp} {Ds : List Addr} {D : Addr} {ds : List PyData} (g : Gr K H₀ H Ds D ds) : soft (H D) = false := by
  obtain ⟨_, _, xs, h, _⟩ := g
  rw [h]
  rfl
theorem Gr.len {H₀ H : Hp} {Ds : List Addr} {D : Addr} {ds : List PyData} {xs : List V} (g : Gr K H₀ H Ds D ds) (h : H D = some (.lst xs)) : xs.length = ds.length := by
  obtain ⟨_, _, ys, h2, c⟩ := g
  rw [h] at h2
  cases h2
  exact dpa_len c
theorem Gr.push {H₀ H : Hp} {Ds : List Addr} {D : Addr} {ds : List PyData} {v : V} {d : PyData} (g : Gr K H₀ H Ds D ds) (x : Dp K (but (fresh H₀ H) Ds) v d) (hl : ds.length ≤ 1000) :
    ∃ xs, H D = some (.lst xs) ∧ xs.length < sizeLine ∧ Gr K H₀ (upd H D (.lst (xs ++ [v]))) Ds D (ds ++ [d]) := by
  obtain ⟨a, b, xs, h, c⟩ := g
  refine ⟨xs, h, by rw [dpa_len c]; exact small1000 hl, a, b, xs ++ [v], upd_same, ?_⟩
  rw [but_upd a]
  exact dpa_snoc x c
theorem Gr.other {H₀ H : Hp} {Ds : List Addr} {D D' : Addr} {ds : List PyData} {o : HO} (g : Gr K H₀ H Ds D ds) (hD : D' ∈ Ds) (hne : D ≠ D') : Gr K H₀ (upd H D' o) Ds D ds := by
  obtain ⟨a, b, xs, h, c⟩ := g
  refine ⟨a, b, xs, by rw [upd_ne hne]; exact h, ?_⟩
  rw [but_upd hD]
  exact c
theorem Gr.start {H₀ H : Hp} {Ds : List Addr} {D : Addr} (e : Same H₀ H) (h : H D = none) (hD : D ∈ Ds) : Gr K H₀ (upd H D (.lst [])) Ds D [] := ⟨hD, e.free h, [], upd_same, .nil⟩
theorem Gr.seq {H₀ H : Hp} {Ds : List Addr} {D : Addr} {ds : List PyData} (g : Gr K H₀ H Ds D ds) : ∃ xs, SqL K H D xs ∧ DpAll K H xs ds :=
  let ⟨_, _, xs, h, c⟩ := g; ⟨xs, SqL.of h, dpa_same (but_sub.trans fresh_sub) c⟩
theorem Gr.done {H₀ H : Hp} {Ds : List Addr} {D : Addr} {ds : List PyData} (g : Gr K H₀ H Ds D ds) : Dp K (fresh H₀ H) (.ref D) (.list ds) := by
  obtain ⟨a, b, xs, h, c⟩ := g
  exact .lst (SqL.of (by rw [fresh_at b]; exact h)) (dpa_same but_sub c)
theorem dpa_set {H : Hp} {v : V} {d : PyData} (x : Dp K H v d) : ∀ {xs : List V} {ds : List PyData} {i : Nat}, DpAll K H xs ds → DpAll K H (xs.set i v) (ds.set i d)
  | _, _, _, .nil => .nil
  | _, _, 0, .cons _ b => .cons x b
  | _, _, i + 1, .cons a b => .cons a (dpa_set x b)
theorem Gr.put {H₀ H : Hp} {Ds : List Addr} {D : Addr} {ds : List PyData} {v : V} {d : PyData} {xs : List V} {i : Nat} (g : Gr K H₀ H Ds D ds) (h : H D = some (.lst xs)) (x : Dp K (but (fresh H₀ H) Ds) v d) : Gr K H₀ (upd H D (.lst (xs.set i v))) Ds D (ds.set i d) := by
  obtain ⟨a, b, ys, h2, c⟩ := g
  rw [h] at h2
  cases h2
  refine ⟨a, b, xs.set i v, upd_same, ?_⟩
  rw [but_upd a]
  exact dpa_set x c
theorem but_cons {H : Hp} {D : Addr} {Ds : List Addr} : Same (but H (D :: Ds)) (but H Ds) := fun b o e => by
  by_cases z : b ∈ Ds
  · have : but H (D :: Ds) b = none := if_pos (List.mem_cons_of_mem _ z)
    rw [this] at e
    cases e
  · rw [but_at z]
    exact but_sub b o e
/-- done, beside what goes on -/
theorem Gr.done2 {H₀ H : Hp} {Ds : List Addr} {D : Addr} {ds : List PyData} (g : Gr K H₀ H (D :: Ds) D ds) (hD : D ∉ Ds) : Dp K (but (fresh H₀ H) Ds) (.ref D) (.list ds) := by
  obtain ⟨a, b, xs, h, c⟩ := g
  exact .lst (SqL.of (by rw [but_at hD, fresh_at b]; exact h)) (dpa_same but_cons c)
/-- a new tuple, a new list of new things -/
theorem new_tup {H₀ H : Hp} {p : Addr} {xs : List V} {ds : List PyData} (e : Same H₀ H) (h : H p = none) (c : DpAll K (fresh H₀ H) xs ds) : Dp K (fresh H₀ (upd H p (.tup xs))) (.ref p) (.tuple ds) :=
  .tup (SqT.of (by rw [fresh_at (e.free h)]; exact upd_same)) (dpa_same (fresh_mono (same_upd h)) c)
theorem new_lst {H₀ H : Hp} {p : Addr} {xs : List V} {ds : List PyData} (e : Same H₀ H) (h : H p = none) (c : DpAll K (fresh H₀ H) xs ds) : Dp K (fresh H₀ (upd H p (.lst xs))) (.ref p) (.list ds) :=
  .lst (SqL.of (by rw [fresh_at (e.free h)]; exact upd_same)) (dpa_same (fresh_mono (same_upd h)) c)

/-- a tuple is as good as new -/
theorem sqt_fresh {H H' : Hp} {a : Addr} {xs : List V} (e : Same H H') (h : SqT K H' a xs) : SqT K (fresh H H') a xs := by
  have key : ∀ o, soft (some o) = true → H' a = some o → fresh H H' a = some o := fun o so ho => by
    rw [fresh_soft (soft_old e (by rw [ho]; exact so)), ho]
  rcases h with (h | ⟨o', h⟩) | h
  · exact .inl (.inl (key _ rfl h))
  · exact .inl (.inr ⟨o', key _ rfl h⟩)
  · exact .inr h
theorem new_f {H H' : Hp} {a : Addr} {r : Rat} (e : Same H H') (h : IsF K H' a r) : Dp K (fresh H H') (.ref a) (fD r) := .tup (sqt_fresh e h) (.cons (.int _) (.cons (.int _) .nil))
theorem Fs.fresh {H H' : Hp} {as : List Addr} {rs : List Rat} (e : Same H H') (h : Fs K H' as rs) : Fs K (fresh H H') as rs := ⟨h.1, fun i a r h1 h2 => sqt_fresh e (h.2 i a r h1 h2)⟩
/-- a new list of fractions that stood -/
theorem new_fs {H₀ H : Hp} {p : Addr} {as : List Addr} {rs : List Rat} (e : Same H₀ H) (h : H p = none) (c : Fs K H as rs) : Dp K (BB.fresh H₀ (upd H p (.lst (as.map V.ref)))) (.ref p) (fsD rs) := new_lst e h (dpAll_f as rs (c.fresh e))
theorem sqt_grow {H₀ H : Hp} {Ds : List Addr} {a : Addr} {xs : List V} (e : Same H₀ H) (hD : ∀ D ∈ Ds, soft (H D) = false) (h : SqT K H a xs) : SqT K (but (BB.fresh H₀ H) Ds) a xs := by
  have h2 := sqt_fresh e h
  have key : ∀ o, soft (some o) = true → BB.fresh H₀ H a = some o → but (BB.fresh H₀ H) Ds a = some o := fun o so ho => by
    refine Eq.trans (but_at fun y => ?_) ho
    have := hD a y
    rw [fresh_sub a o ho, so] at this
    cases this
  rcases h2 with (h | ⟨o', h⟩) | h
  · exact .inl (.inl (key _ rfl h))
  · exact .inl (.inr ⟨o', key _ rfl h⟩)
  · exact .inr h
/-- .. beside what grows -/
theorem grow_f {H₀ H : Hp} {Ds : List Addr} {a : Addr} {r : Rat} (e : Same H₀ H) (hD : ∀ D ∈ Ds, soft (H D) = false) (h : IsF K H a r) : Dp K (but (fresh H₀ H) Ds) (.ref a) (fD r) := by
  have h2 := sqt_fresh e h
  have key : ∀ o, soft (some o) = true → fresh H₀ H a = some o → but (fresh H₀ H) Ds a = some o := fun o so ho => by
    refine Eq.trans (but_at fun y => ?_) ho
    have := hD a y
    rw [fresh_sub a o ho, so] at this
    cases this
  refine .tup ?_ (.cons (.int _) (.cons (.int _) .nil))
  rcases h2 with (h | ⟨o', h⟩) | h
  · exact .inl (.inl (key _ rfl h))
  · exact .inl (.inr ⟨o', key _ rfl h⟩)
  · exact .inr h

/-- a new tuple, beside what grows -/
theorem grow_tup {H₀ H : Hp} {Ds : List Addr} {p : Addr} {xs : List V} {ds : List PyData} (e : Same H₀ H) (hD : ∀ D ∈ Ds, soft (H D) = false) (h : H p = none) (c : DpAll K (but (fresh H₀ H) Ds) xs ds) : Dp K (but (fresh H₀ (upd H p (.tup xs))) Ds) (.ref p) (.tuple ds) := by
  refine .tup (SqT.of ?_) (dpa_same (but_mono (fresh_mono (same_upd h))) c)
  rw [but_at (fun y => by have := hD p y; rw [h] at this; cases this), fresh_at (e.free h)]
  exact upd_same

/-- a row that stands, beside a list that grows: they are two -/
theorem sql_keep {H : Hp} {a D : Addr} {xs : List V} {o : HO} (hne : a ≠ D) (h : SqL K H a xs) : SqL K (upd H D o) a xs := by
  rcases h with (h | ⟨o', h⟩) | h
  · exact .inl (.inl (by rw [upd_ne hne]; exact h))
  · exact .inl (.inr ⟨o', by rw [upd_ne hne]; exact h⟩)
  · exact .inr h

/-! ### the rules that ask the written part, where the context is bound -/
section
variable {X : Cx} {K : PySem.W.Frag}
theorem ix_listK (h : X.K = K) : IxR X (rIxL K) := by subst h; exact ix_list
theorem ix_tupK (h : X.K = K) : IxR X (rIxT K) := by subst h; exact ix_tup
theorem sl_listK (h : X.K = K) : SlR X (rSlL K) := by subst h; exact sl_list
theorem call_isiK (h : X.K = K) : CallR X (.builtin "isinstance") (rIsi K) := by subst h; exact call_isi
theorem cr_maxK (h : X.K = K) (hc : X.calm = true) : CallR X (.builtin "max") (rMax K) := by subst h; exact cr_max hc
theorem cr_sumK (h : X.K = K) (hc : X.calm = true) : CallR X (.builtin "sum") (rSum K) := by subst h; exact cr_sum hc
theorem call_len_seqK (h : X.K = K) : CallR X (.builtin "len") (fun xs H Q => ∃ p ys, xs = [.ref p] ∧ (SqL K H p ys ∨ SqT K H p ys) ∧ Q (.int ys.length) H) := by subst h; exact call_len_seq
theorem call_list_ofK (h : X.K = K) : CallR X (.type "list") (fun xs H Q => ∃ p ys, xs = [.ref p] ∧ (SqL K H p ys ∨ SqT K H p ys) ∧ ∀ l, H l = none → Q (.ref l) (upd H l (.lst ys))) := by subst h; exact call_list_of
theorem pe_fldK {e : Expr} {f : Str} {ta : TE} {pos : Pos} (h : X.K = K) (he : PE X e ta) (hb : attributeBase e f X.env (eval e X.env) = eval e X.env) : PE X (.Attribute e f pos) (tFld K ta f) := by subst h; exact pe_fld he hb
end

/-- x is True, x a bool or None -/
def rIsBN : R2 := fun x y H Q => ∃ b : Bool, y = .bl b ∧ (x = .non ∨ ∃ a, x = .bl a) ∧ Q (.bl (decide (x = .bl b))) H
def rNotBN : R2 := fun x y H Q => ∃ b : Bool, y = .bl b ∧ (x = .non ∨ ∃ a, x = .bl a) ∧ Q (.bl (!decide (x = .bl b))) H
section
variable {X : Cx}
theorem op_isBN : OpR X (compareOp .Is) rIsBN := by
  intro pins s σ H x y v u Q I rx ry h
  obtain ⟨b, rfl, hx, q⟩ := h
  cases (show u = Value.bool b from ry)
  rcases hx with rfl | ⟨a, rfl⟩
  · cases (show v = Value.none from rx)
    exact wpAny_is_other rfl (fun z => nomatch z) ⟨.bl false, H, I, rfl, by simpa using q⟩
  · cases (show v = Value.bool a from rx)
    by_cases e : a = b
    · subst e
      exact wpAny_is_self rfl ⟨.bl true, H, I, rfl, by simpa using q⟩
    · exact wpAny_is_other rfl (fun z => e (Value.bool.inj z)) ⟨.bl false, H, I, rfl, by simpa [e] using q⟩
theorem op_notBN : OpR X (compareOp .IsNot) rNotBN := by
  intro pins s σ H x y v u Q I rx ry h
  obtain ⟨b, rfl, hx, q⟩ := h
  cases (show u = Value.bool b from ry)
  rcases hx with rfl | ⟨a, rfl⟩
  · cases (show v = Value.none from rx)
    exact wpAny_isNot_other rfl (fun z => nomatch z) ⟨.bl true, H, I, rfl, by simpa using q⟩
  · cases (show v = Value.bool a from rx)
    by_cases e : a = b
    · subst e
      exact wpAny_isNot_self rfl ⟨.bl false, H, I, rfl, by simpa using q⟩
    · exact wpAny_isNot_other rfl (fun z => e (Value.bool.inj z)) ⟨.bl true, H, I, rfl, by simpa [e] using q⟩
end

/-- x[i], x a list or a tuple -/
def rIxS2 (K : PySem.W.Frag) : R2 := fun x y H Q => rIxL K x y H Q ∨ rIxT K x y H Q
theorem ix_seq {X : Cx} : IxR X (rIxS2 X.K) := by
  intro value slice pins s σ H x y v u Q I rx ry h hs
  rcases h with h | h
  · exact ix_list value slice pins s σ H x y v u Q I rx ry h hs
  · exact ix_tup value slice pins s σ H x y v u Q I rx ry h hs
theorem ix_seqK {X : Cx} {K : PySem.W.Frag} (h : X.K = K) : IxR X (rIxS2 K) := by subst h; exact ix_seq
/-- a def of which nothing is promised -/
theorem fnok_no {P : Program} {w : World} {K : PySem.W.Frag} {mg : Str → Option Value} {base : Heap} {CX : CXT} {k : Nat} {f : Addr} {fd : FuncData} {ps : List Str} {sp : Sp} (h : ∀ vs H Q E, ¬ sp vs H Q E) : FnOk P w K mg base CX k f fd ps sp :=
  ⟨fun vs H Q E q => absurd q (h vs H Q E), fun _ _ _ H _ _ vs Q E _ _ _ _ q => absurd q (h vs H Q E)⟩

/-! ### own classes, by name -/
structure DMk (P : Program) (w : World) (K : PySem.W.Frag) (mg : Str → Option Value) (base : Heap) (CX : CXT) (k : Nat) (x : Str) (C : Addr) (sp : Sp) : Prop where
  ex : ∃ (f : Addr) (fd : FuncData) (ps : List Str), Mk K C f ∧ FnOk P w K mg base CX k f fd ps sp ∧ mg x = some (.ref C) ∧ Binds K fd ps []
structure DMe (P : Program) (w : World) (K : PySem.W.Frag) (mg : Str → Option Value) (base : Heap) (CX : CXT) (k : Nat) (C : Addr) (m : Str) (sp : Sp) : Prop where
  c : Cls K C
  ex : ∃ (f : Addr) (fd : FuncData) (ps : List Str), Meth K C m f ∧ FnOk P w K mg base CX k f fd ps sp ∧ Binds K fd ps []
section
variable {X : Cx} {CX : CXT} {x : Str} {p pos : Pos} {e : Expr} {es : List Expr} {t : TA} {sp : Sp} {k j : Nat} {E : XK} {C : Addr}
theorem pe_dmake (c : DMk X.prog X.w X.K X.mg X.base CX k x C sp) (hr : Room j X.A) (hk : k + 1 ≤ j) (hg : Gl X x) (hx : Passes CX X E) (ha : PA X (e :: es) t)
    (hdb : (x == ("__debug__" : Str)) = false := by decide) (he : starEach (e :: es) X.env = (false, eval e X.env) :: starEach es X.env := by rfl) (hpl : (backTo pos (starEach es X.env)).any (·.1) = false := by rfl) :
    PE X (.Call (.Name x p) (e :: es) [] pos) (tMake C sp [] E t) := by
  obtain ⟨f, fd, ps, M, F, hm, b⟩ := c.ex
  exact pe_make M F (hr.mono hk) hg hm b .nil hx ha hdb he hpl
end
section
variable {X : Cx} {CX : CXT} {x : Str} {p pos : Pos} {sp : Sp} {k j : Nat} {E : XK}
theorem pe_d0 (c : Dn X.prog X.w X.K X.mg X.base CX k x sp) (hr : Room j X.A) (hk : k ≤ j) (hg : Gl X x) (hx : Passes CX X E)
    (hdb : (x == ("__debug__" : Str)) = false := by decide) : PE X (.Call (.Name x p) [] [] pos) (tCall sp [] E tNil) := by
  obtain ⟨f, fd, ps, F, hm, kp, b⟩ := c.ex
  exact pe_call0 F (hr.mono hk) hg hm kp b .nil hx hdb
end
theorem putF_len {f : Str} {v : V} : ∀ fs : List (Str × V), (putF f v fs).length ≤ fs.length + 1
  | [] => Nat.le_refl _
  | (g, x) :: r => by
    unfold putF
    split
    · exact Nat.le_succ _
    · rw [List.length_cons, List.length_cons]
      have := putF_len (f := f) (v := v) r
      omega
section
variable {X : Cx} {CX : CXT} {m : Str} {apos pos : Pos} {o e : Expr} {es : List Expr} {ta : TE} {t : TA} {sp : Sp} {k j : Nat} {E : XK} {C : Addr}
theorem pe_dmeth {pl : Sem Bool} (c : DMe X.prog X.w X.K X.mg X.base CX k C m sp) (hr : Room j X.A) (hk : k ≤ j) (he : PE X o ta) (hx : Passes CX X E) (ha : PA X (e :: es) t)
    (hst : starEach (e :: es) X.env = (false, eval e X.env) :: starEach es X.env := by rfl) (hpl : (backTo pos (starEach es X.env)).any (·.1) = false := by rfl)
    (ht : eval (.Call (.Attribute o m apos) (e :: es) [] pos) X.env = (do
      let ov ← eval o X.env
      standAt apos.atName
      let (f, first) ← holding [ov] (getMethod ov m pl)
      callWith pos f first (backTo pos (starEach (e :: es) X.env)) (backToKw pos (keywordEach [] X.env))) := by rfl) :
    PE X (.Call (.Attribute o m apos) (e :: es) [] pos) (tMeth C m sp [] E ta t) := by
  obtain ⟨f, fd, ps, M, F, b⟩ := c.ex
  exact pe_meth he c.c M F (hr.mono hk) b .nil hx ha hst hpl ht
theorem pe_dmeth0 {pl : Sem Bool} (c : DMe X.prog X.w X.K X.mg X.base CX k C m sp) (hr : Room j X.A) (hk : k ≤ j) (he : PE X o ta) (hx : Passes CX X E)
    (ht : eval (.Call (.Attribute o m apos) [] [] pos) X.env = (do
      let ov ← eval o X.env
      standAt apos.atName
      let (f, first) ← holding [ov] (getMethod ov m pl)
      callWith pos f first (backTo pos (starEach [] X.env)) (backToKw pos (keywordEach [] X.env))) := by rfl) :
    PE X (.Call (.Attribute o m apos) [] [] pos) (tMeth C m sp [] E ta tNil) := by
  obtain ⟨f, fd, ps, M, F, b⟩ := c.ex
  exact pe_meth0 he c.c M F (hr.mono hk) b .nil hx ht
end
/-- an object of the class at C whose field n is v -/
def Fld (K : PySem.W.Frag) (H : Hp) (a : Addr) (n : Str) (v : V) : Prop := ∃ C dx fs, H a = some (.ins C dx fs) ∧ Cls K C ∧ NoAttr K C n ∧ fs.lookup n = some v
theorem Fld.same {H H' : Hp} {a : Addr} {n : Str} {v : V} (e : Same H H') (h : Fld K H a n v) : Fld K H' a n v := let ⟨C, dx, fs, h1, h2⟩ := h; ⟨C, dx, fs, e _ _ h1, h2⟩
end BB

set_option maxHeartbeats 4000000
/-! Buys: purchases, links, steps, Data objects. -/
namespace BB
open PySem PySem.Spec PyProof.Rows L2
abbrev Buy := List Rat × List Rat
def bD (b : Buy) : PyData := .tuple [fsD b.1, fsD b.2]
def bsD (bs : List Buy) : PyData := .list (bs.map bD)
abbrev Lnk := Nat × Nat × Bool
def lD (l : Lnk) : PyData := .tuple [.int (l.1 : Int), .int (l.2.1 : Int), .bool l.2.2]
def lsD (ls : List (Nat × Nat × Bool)) : PyData := .list (ls.map lD)
structure okBuy (g : Nat) (b : Buy) : Prop where
  l1 : b.1.length = g
  l2 : b.2.length = g
  p : ∀ r ∈ b.1, 0 < r ∧ Sz 50 r
  a : ∀ r ∈ b.2, 0 ≤ r ∧ Sz 80 r
  n : ∃ r ∈ b.2, 0 < r
/-- the turn's price and amount -/
def midP (K : PySem.W.Frag) (a a2 pP pA : Addr) (g kd i : Int) (H' : Hp) (σ : L2.St) (H2 : Hp) : Prop := Same H' H2 ∧ ∃ (p7 p8 : Addr) (r s : Rat), σ = [some (.ref a), some (.ref a2), some (.int g), some (.int kd), some (.ref pP), some (.ref pA), some (.int i), some (.ref p7), some (.ref p8), none] ∧ IsF K H2 p7 r ∧ 0 < r ∧ Sz 50 r ∧ IsF K H2 p8 s ∧ 0 ≤ s ∧ Sz 80 s
/-- both lists, as they grow -/
def growP (K : PySem.W.Frag) (a a2 pP pA : Addr) (g : Nat) (kd : Int) (H : Hp) (i : Nat) (σ : L2.St) (H2 : Hp) : Prop := Same H H2 ∧ pP ≠ pA ∧ ∃ (y6 y7 y8 : Option V) (ps as : List Rat), σ = [some (.ref a), some (.ref a2), some (.int g), some (.int kd), some (.ref pP), some (.ref pA), y6, y7, y8, none] ∧ Gr K H H2 [pP, pA] pP (ps.map fD) ∧ Gr K H H2 [pP, pA] pA (as.map fD) ∧ ps.length = i ∧ as.length = i ∧ (∀ r ∈ ps, 0 < r ∧ Sz 50 r) ∧ (∀ r ∈ as, 0 ≤ r ∧ Sz 80 r)
structure okData (g most linked : Nat) (bs : List Buy) (ls : List (Nat × Nat × Bool)) : Prop where
  g1 : 1 ≤ g
  g4 : g ≤ 4
  n : bs.length ≤ most
  b : ∀ b ∈ bs, okBuy g b
  m : ls.length ≤ linked
  l : ∀ l ∈ ls, l.1 < bs.length ∧ l.2.1 < bs.length
def dataD (g : Nat) (bs : List Buy) (ls : List (Nat × Nat × Bool)) : PyData := .tuple [.int (g : Int), bsD bs, lsD ls]
/-- a pair, new, that tells r -/
def rP (K : PySem.W.Frag) (H : Hp) (r : Rat) (n : Nat) (Q : VK) : Prop := ∀ (p q : Int) (H' : Hp) (t : Addr), 0 < q → Rat.divInt p q = r → p.natAbs < 2 ^ n → q.natAbs < 2 ^ n → Same H H' → H t = none → SqT K H' t [.int p, .int q] → Q (.ref t) H'
theorem dot_step {p q : Int} {r s c : Rat} (hq : 0 < q) (h : Rat.divInt p q = c) : Rat.divInt (p * ((r.den : Int) * (s.den : Int)) + r.num * s.num * q) (q * ((r.den : Int) * (s.den : Int))) = c + r * s := by
  rw [← h, ← rat_mul r s, Rat.divInt_add_divInt _ _ (Int.ne_of_gt hq) (Int.ne_of_gt (den_mul_pos r s))]
theorem buy_of {K : PySem.W.Frag} {H : Hp} {v : V} {b : Buy} (h : Dp K H v (bD b)) : ∃ t p q, v = .ref t ∧ SqT K H t [.ref p, .ref q] ∧ FsAt K H p b.1 ∧ FsAt K H q b.2 := by
  obtain ⟨t, xs, rfl, ht, hx⟩ := dp_tup h
  obtain ⟨x, y, rfl, h1, h2⟩ := dpa_two hx
  obtain ⟨p, rfl, hp⟩ := fsAt_of h1
  obtain ⟨q, rfl, hq⟩ := fsAt_of h2
  exact ⟨t, p, q, rfl, ht, hp, hq⟩
theorem buys_get {K : PySem.W.Frag} {H : Hp} {v : V} {bs : List Buy} {i : Nat} {b : Buy} (h : Dp K H v (bsD bs)) (e : bs[i]? = some b) : ∃ a xs t p q, v = .ref a ∧ SqL K H a xs ∧ atI xs (i : Int) = some (.ref t) ∧ SqT K H t [.ref p, .ref q] ∧ FsAt K H p b.1 ∧ FsAt K H q b.2 := by
  obtain ⟨a, xs, rfl, hs, hx⟩ := dp_lst h
  obtain ⟨x, ex, hd⟩ := dpa_get (i := i) hx (by rw [List.getElem?_map, e]; rfl)
  obtain ⟨t, p, q, rfl, ht, hp, hq⟩ := buy_of hd
  exact ⟨a, xs, t, p, q, rfl, hs, atI_nat ex, ht, hp, hq⟩
theorem sub_np {a b : Rat} : (a - b ≤ 0 ↔ a ≤ b) ∧ (a - b < 0 ↔ a < b) := by
  constructor <;> constructor <;> intro h <;> grind
def gapR (b : Buy) (ss : List Rat) : Rat := dotR b.1 ss - dotR b.1 b.2
theorem rP_lt {p q : Int} {r : Rat} (hq : 0 < q) (h : Rat.divInt p q = r) : (p < 0 ↔ r < 0) ∧ (p ≤ 0 ↔ r ≤ 0) := by
  subst h
  have h1 := Rat.divInt_nonneg_iff_of_pos_right (a := p) hq
  have h2 : 0 ≤ Rat.divInt (-p) q ↔ 0 ≤ -p := Rat.divInt_nonneg_iff_of_pos_right hq
  rw [← Rat.neg_divInt] at h2
  have h3 : (0 : Rat) ≤ -(Rat.divInt p q) ↔ Rat.divInt p q ≤ 0 := by
    constructor
    · intro h; have := Rat.neg_le_neg h; simpa using this
    · intro h; have := Rat.neg_le_neg h; simpa using this
  refine ⟨?_, ?_⟩
  · rw [← Rat.not_le, h1]; omega
  · rw [← h3, h2]; omega
def opV : Option Bool → V
  | none => .non
  | some b => .bl b
def linkR (i j : Nat) (o : Option Bool) (l : Lnk) : Option Bool := if l.1 = i ∧ l.2.1 = j then some (l.2.2 || decide (o = some true)) else o
def gapO (r : Rat) : Option Bool := if r ≤ 0 then some (decide (r < 0)) else none
def baseR (bs : List Buy) (i j : Nat) : Option Bool := if i = j then none else match bs[i]?, bs[j]? with
  | some b, some c => gapO (gapR b c.2)
  | _, _ => none
def stepR (bs : List Buy) (ls : List Lnk) (i j : Nat) : Option Bool := ls.foldl (linkR i j) (baseR bs i j)
def opD : Option Bool → PyData
  | none => .none
  | some b => .bool b
def tabD (t : List (List (Option Bool))) : PyData := .list (t.map fun r => .list (r.map opD))
def stepsR (bs : List Buy) (ls : List Lnk) : List (List (Option Bool)) := (List.range bs.length).map fun i => (List.range bs.length).map fun j => stepR bs ls i j
theorem dp_op {K : PySem.W.Frag} {H : Hp} : ∀ o : Option Bool, Dp K H (opV o) (opD o)
  | none => .non
  | some b => .bl b
/-- a Data object -/
def DataAt (K : PySem.W.Frag) (H : Hp) (a : Addr) (g : Nat) (bs : List Buy) (ls : List Lnk) : Prop := Fld K H a "goods" (.int (g : Int)) ∧ ∃ v w, Fld K H a "buys" v ∧ Dp K H v (bsD bs) ∧ Fld K H a "links" w ∧ Dp K H w (lsD ls)
theorem DataAt.same {K : PySem.W.Frag} {H H' : Hp} {a : Addr} {g : Nat} {bs : List Buy} {ls : List Lnk} (e : Same H H') (h : DataAt K H a g bs ls) : DataAt K H' a g bs ls :=
  let ⟨h1, v, w, h2, h3, h4, h5⟩ := h; ⟨h1.same e, v, w, h2.same e, dp_same e h3, h4.same e, dp_same e h5⟩
theorem plain_f (r : Rat) : plain 2 (fD r) := ⟨(by decide : (2 : Nat) ≤ 1000000), fun d hd => by
  rcases List.mem_cons.mp hd with rfl | hd
  · trivial
  · rw [List.mem_singleton.mp hd]; trivial⟩
theorem plain_fs {rs : List Rat} (h : rs.length ≤ 1000000) : plain 3 (fsD rs) := ⟨(by rw [List.length_map]; exact h), fun d hd => by
  obtain ⟨r, _, rfl⟩ := List.mem_map.mp hd
  exact plain_f r⟩
theorem plain_b {b : Buy} (h1 : b.1.length ≤ 1000000) (h2 : b.2.length ≤ 1000000) : plain 4 (bD b) := ⟨(by decide : (2 : Nat) ≤ 1000000), fun d hd => by
  rcases List.mem_cons.mp hd with rfl | hd
  · exact plain_fs h1
  · rw [List.mem_singleton.mp hd]; exact plain_fs h2⟩
theorem plain_bs {g : Nat} {bs : List Buy} (hg : g ≤ 1000000) (h : bs.length ≤ 1000000) (ok : ∀ b ∈ bs, okBuy g b) : plain 5 (bsD bs) := ⟨(by rw [List.length_map]; exact h), fun d hd => by
  obtain ⟨b, hb, rfl⟩ := List.mem_map.mp hd
  exact plain_b (by rw [(ok b hb).l1]; exact hg) (by rw [(ok b hb).l2]; exact hg)⟩
theorem plain_l (l : Lnk) : plain 2 (lD l) := ⟨(by decide : (3 : Nat) ≤ 1000000), fun d hd => by
  rcases List.mem_cons.mp hd with rfl | hd
  · trivial
  rcases List.mem_cons.mp hd with rfl | hd
  · trivial
  rw [List.mem_singleton.mp hd]; trivial⟩
theorem plain_ls {ls : List Lnk} (h : ls.length ≤ 1000000) : plain 3 (lsD ls) := ⟨(by rw [List.length_map]; exact h), fun d hd => by
  obtain ⟨l, _, rfl⟩ := List.mem_map.mp hd
  exact plain_l l⟩
theorem op_of {K : PySem.W.Frag} {H : Hp} {v : V} : ∀ {o : Option Bool}, Dp K H v (opD o) → v = opV o
  | none, h => dp_non h
  | some _, h => dp_bl h
theorem tab_get {K : PySem.W.Frag} {H : Hp} {v : V} {T : List (List (Option Bool))} {i j : Nat} {r : List (Option Bool)} {o : Option Bool} (h : Dp K H v (tabD T)) (e : T[i]? = some r) (f : r[j]? = some o) :
    ∃ a xs b ys, v = .ref a ∧ SqL K H a xs ∧ atI xs (i : Int) = some (.ref b) ∧ SqL K H b ys ∧ atI ys (j : Int) = some (opV o) := by
  obtain ⟨a, xs, rfl, hs, hx⟩ := dp_lst h
  obtain ⟨x, ex, hd⟩ := dpa_get (i := i) hx (by rw [List.getElem?_map, e]; rfl)
  obtain ⟨b, ys, rfl, ht, hy⟩ := dp_lst hd
  obtain ⟨y, ey, he⟩ := dpa_get (i := j) hy (by rw [List.getElem?_map, f]; rfl)
  cases op_of he
  exact ⟨a, xs, b, ys, rfl, hs, atI_nat ex, ht, atI_nat ey⟩
/-- the steps that a table tells -/
def tabS (T : List (List (Option Bool))) (i j : Nat) : Option Bool := match T[i]? with
  | some r => match r[j]? with
    | some o => o
    | none => none
  | none => none
theorem steps_get {bs : List Buy} {ls : List Lnk} {i j : Nat} (hi : i < bs.length) (hj : j < bs.length) : (stepsR bs ls)[i]? = some ((List.range bs.length).map fun j => stepR bs ls i j) ∧ ((List.range bs.length).map fun j => stepR bs ls i j)[j]? = some (stepR bs ls i j) := by
  refine ⟨?_, ?_⟩
  · unfold stepsR
    rw [List.getElem?_map, List.getElem?_range hi]
    rfl
  · rw [List.getElem?_map, List.getElem?_range hj]
    rfl
theorem grow_l {K : PySem.W.Frag} {H₀ H : Hp} {Ds : List Addr} {v : V} {l : Lnk} (e : Same H₀ H) (hD : ∀ D ∈ Ds, soft (H D) = false) (h : Dp K H v (lD l)) : Dp K (but (fresh H₀ H) Ds) v (lD l) := by
  obtain ⟨t, xs, rfl, ht, hx⟩ := dp_tup h
  obtain ⟨x, y, z, rfl, h1, h2, h3⟩ := dpa_three hx
  cases dp_int h1
  cases dp_int h2
  cases dp_bl h3
  exact .tup (sqt_grow e hD ht) (.cons (.int _) (.cons (.int _) (.cons (.bl _) .nil)))
theorem grow_ls {K : PySem.W.Frag} {H₀ H : Hp} {Ds : List Addr} (e : Same H₀ H) (hD : ∀ D ∈ Ds, soft (H D) = false) : ∀ {ls : List Lnk} {vs : List V}, DpAll K H vs (ls.map lD) → DpAll K (but (fresh H₀ H) Ds) vs (ls.map lD)
  | [], _, h => by cases h; exact .nil
  | l :: ls, _, h => by
    cases h with
    | cons a b => exact .cons (grow_l e hD a) (grow_ls e hD b)
/-- a Data object, its lists new -/
def DataN (K : PySem.W.Frag) (H₀ H : Hp) (a : Addr) (g : Nat) (bs : List Buy) (ls : List Lnk) : Prop := Fld K H a "goods" (.int (g : Int)) ∧ ∃ v w, Fld K H a "buys" v ∧ Dp K (fresh H₀ H) v (bsD bs) ∧ Fld K H a "links" w ∧ Dp K (fresh H₀ H) w (lsD ls)
theorem DataN.old {K : PySem.W.Frag} {H₀ H₁ H : Hp} {a : Addr} {g : Nat} {bs : List Buy} {ls : List Lnk} (e : Same H₀ H₁) (h : DataN K H₁ H a g bs ls) : DataN K H₀ H a g bs ls :=
  let ⟨h1, v, w, h2, h3, h4, h5⟩ := h; ⟨h1, v, w, h2, dp_same (fresh_old e) h3, h4, dp_same (fresh_old e) h5⟩
theorem DataN.at {K : PySem.W.Frag} {H₀ H : Hp} {a : Addr} {g : Nat} {bs : List Buy} {ls : List Lnk} (h : DataN K H₀ H a g bs ls) : DataAt K H a g bs ls :=
  let ⟨h1, v, w, h2, h3, h4, h5⟩ := h; ⟨h1, v, w, h2, dp_same fresh_sub h3, h4, dp_same fresh_sub h5⟩
theorem tab_at {K : PySem.W.Frag} {H : Hp} {xs : List V} {T : List (List (Option Bool))} {i j : Nat} (hx : DpAll K H xs (T.map fun r => PyData.list (r.map opD))) (hi : i < T.length) (hr : ∀ r ∈ T, j < r.length) :
    ∃ b ys, atI xs (i : Int) = some (.ref b) ∧ SqL K H b ys ∧ atI ys (j : Int) = some (opV (tabS T i j)) := by
  have e : T[i]? = some T[i] := List.getElem?_eq_getElem hi
  have hj := hr _ (List.getElem_mem hi)
  have f : T[i][j]? = some T[i][j] := List.getElem?_eq_getElem hj
  obtain ⟨x, ex, hd⟩ := dpa_get (i := i) hx (by rw [List.getElem?_map, e]; rfl)
  obtain ⟨b, ys, rfl, ht, hy⟩ := dp_lst hd
  obtain ⟨y, ey, he⟩ := dpa_get (i := j) hy (by rw [List.getElem?_map, f]; rfl)
  cases op_of he
  refine ⟨b, ys, atI_nat ex, ht, ?_⟩
  unfold tabS
  rw [e]
  simp only
  rw [f]
  exact atI_nat ey
/-! ### a table of answers, as it is filled -/
structure TabAt (K : PySem.W.Frag) (H₀ H : Hp) (pT : Addr) (rows : List Addr) (T : List (List (Option Bool))) : Prop where
  new : H₀ pT = none
  same : Same H₀ H
  len : rows.length = T.length
  inj : ∀ (m m' : Nat) (a : Addr), rows[m]? = some a → rows[m']? = some a → m = m'
  apart : ∀ a ∈ rows, a ≠ pT ∧ H₀ a = none
  tab : H pT = some (.lst (rows.map V.ref))
  row : ∀ (m : Nat) (a : Addr) (r : List (Option Bool)), rows[m]? = some a → T[m]? = some r → H a = some (.lst (r.map opV))
theorem TabAt.grown {K : PySem.W.Frag} {H₀ H H' : Hp} {pT : Addr} {rows : List Addr} {T : List (List (Option Bool))} (t : TabAt K H₀ H pT rows T) (e : Same H H') : TabAt K H₀ H' pT rows T :=
  ⟨t.new, t.same.trans e, t.len, t.inj, t.apart, e _ _ t.tab, fun m a r h1 h2 => e _ _ (t.row m a r h1 h2)⟩
theorem TabAt.start {K : PySem.W.Frag} {H : Hp} {D : Addr} (h : H D = none) : TabAt K H (upd H D (.lst [])) D [] [] :=
  ⟨h, same_upd h, rfl, (fun m m' a h1 => by simp at h1), (fun a ha => nomatch ha), upd_same, (fun m a r h1 => by simp at h1)⟩
theorem TabAt.push {K : PySem.W.Frag} {H₀ H : Hp} {pT D : Addr} {rows : List Addr} {T : List (List (Option Bool))} {r : List (Option Bool)} (t : TabAt K H₀ H pT rows T) (n0 : H₀ D = none) (nD : D ≠ pT) (nr : D ∉ rows) (e : H D = some (.lst (r.map opV))) : TabAt K H₀ (upd H pT (.lst (rows.map V.ref ++ [.ref D]))) pT (rows ++ [D]) (T ++ [r]) := by
  have hl := t.len
  refine ⟨t.new, same_mut t.same t.new, by rw [List.length_append, List.length_append, t.len]; rfl, fun m m' a h1 h2 => ?_, fun a ha => ?_, by rw [upd_same, List.map_append]; rfl, fun m a q h1 h2 => ?_⟩
  · rw [List.getElem?_append] at h1 h2
    split at h1 <;> split at h2
    · exact t.inj m m' a h1 h2
    · rename_i k1 k2
      have h3 := List.mem_of_getElem? h2
      rw [List.mem_singleton.mp h3] at h1
      exact absurd (List.mem_of_getElem? h1) nr
    · rename_i k1 k2
      have h3 := List.mem_of_getElem? h1
      rw [List.mem_singleton.mp h3] at h2
      exact absurd (List.mem_of_getElem? h2) nr
    · have k1 := (List.getElem?_eq_some_iff.mp h1).1
      have k2 := (List.getElem?_eq_some_iff.mp h2).1
      rw [List.length_singleton] at k1 k2
      omega
  · rcases List.mem_append.mp ha with ha | ha
    · exact t.apart a ha
    · rw [List.mem_singleton.mp ha]; exact ⟨nD, n0⟩
  · rw [List.getElem?_append] at h1 h2
    split at h1
    · rename_i k
      rw [if_pos (by omega)] at h2
      rw [upd_ne (t.apart a (List.mem_of_getElem? h1)).1]
      exact t.row m a q h1 h2
    · rename_i k
      rw [if_neg (by omega)] at h2
      have h3 := List.mem_of_getElem? h1
      have h4 := List.mem_of_getElem? h2
      rw [List.mem_singleton.mp h3, List.mem_singleton.mp h4, upd_ne nD]
      exact e
theorem TabAt.put {K : PySem.W.Frag} {H₀ H : Hp} {pT a : Addr} {rows : List Addr} {T : List (List (Option Bool))} {r : List (Option Bool)} {m k : Nat} {o : Option Bool} (t : TabAt K H₀ H pT rows T) (h1 : rows[m]? = some a) (h2 : T[m]? = some r) : TabAt K H₀ (upd H a (.lst ((r.map opV).set k (opV o)))) pT rows (T.set m (r.set k o)) := by
  have ha := t.apart a (List.mem_of_getElem? h1)
  refine ⟨t.new, same_mut t.same ha.2, by rw [List.length_set, t.len], t.inj, t.apart, by rw [upd_ne ha.1.symm]; exact t.tab, fun m' a' r' g1 g2 => ?_⟩
  rw [List.getElem?_set] at g2
  by_cases e : m = m'
  · subst e
    rw [if_pos rfl, if_pos (List.getElem?_eq_some_iff.mp h2).1] at g2
    rw [h1] at g1
    cases Option.some.inj g1
    cases Option.some.inj g2
    rw [upd_same, List.map_set]
  · rw [if_neg e] at g2
    rw [upd_ne (fun z => e (t.inj m m' a h1 (by rw [← z]; exact g1)))]
    exact t.row m' a' r' g1 g2
theorem TabAt.done {K : PySem.W.Frag} {H₀ H : Hp} {pT : Addr} {rows : List Addr} {T : List (List (Option Bool))} (t : TabAt K H₀ H pT rows T) : Dp K (fresh H₀ H) (.ref pT) (tabD T) := by
  have key : ∀ (rows : List Addr) (T : List (List (Option Bool))), rows.length = T.length → (∀ a ∈ rows, H₀ a = none) → (∀ (m : Nat) (a : Addr) (r : List (Option Bool)), rows[m]? = some a → T[m]? = some r → H a = some (.lst (r.map opV))) → DpAll K (fresh H₀ H) (rows.map V.ref) (T.map fun r => PyData.list (r.map opD)) := by
    intro rows
    induction rows with
    | nil =>
      intro T hl _ _
      cases T with
      | nil => exact .nil
      | cons _ _ => cases hl
    | cons a rows ih =>
      intro T hl h0 hr
      cases T with
      | nil => cases hl
      | cons r T =>
        refine .cons (.lst (SqL.of (by rw [fresh_at (h0 a List.mem_cons_self)]; exact hr 0 a r rfl rfl)) ?_) (ih T (Nat.succ.inj hl) (fun b hb => h0 b (List.mem_cons_of_mem _ hb)) fun m b q h1 h2 => hr (m + 1) b q h1 h2)
        induction r with
        | nil => exact .nil
        | cons o r ih2 => exact .cons (dp_op o) (by
            clear ih hr h0 hl ih2
            induction r with
            | nil => exact .nil
            | cons o r ih3 => exact .cons (dp_op o) ih3)
  exact .lst (SqL.of (by rw [fresh_at t.new]; exact t.tab)) (key rows T t.len (fun a ha => (t.apart a ha).2) t.row)
/-! ### chains -/
/-- from one to the next, along xs: none where no step is, otherwise whether one is strict -/
def chainS (S : Nat → Nat → Option Bool) : Bool → List Int → Option Bool
  | st, [] => some st
  | st, [_] => some st
  | st, x :: y :: r => match S x.toNat y.toNat with
    | none => none
    | some b => chainS S (st || b) (y :: r)
def inRange (n : Nat) (xs : List Int) : Bool := xs.all fun x => decide (0 ≤ x) && decide (x < n)
def chainR (S : Nat → Nat → Option Bool) (n : Nat) (xs : List Int) : Option Bool := if xs = [] then none else if inRange n xs = true then chainS S false xs else none
/-- the chain so far: its first k steps -/
theorem chainS_drop {S : Nat → Nat → Option Bool} : ∀ {xs : List Int} {st : Bool} {x y : Int}, xs[0]? = some x → xs[1]? = some y → chainS S st xs = match S x.toNat y.toNat with
    | none => none
    | some b => chainS S (st || b) xs.tail
  | [], _, _, _, h, _ => by simp at h
  | [_], _, _, _, _, h => by simp at h
  | a :: b :: r, st, x, y, h1, h2 => by
    cases Option.some.inj h1
    cases Option.some.inj h2
    rfl
theorem chainS_end {S : Nat → Nat → Option Bool} {st : Bool} : ∀ {xs : List Int}, xs.length ≤ 1 → chainS S st xs = some st
  | [], _ => rfl
  | [_], _ => rfl
  | _ :: _ :: _, h => by simp at h
end BB

set_option maxHeartbeats 4000000
/-! Txt: fractions as texts. -/
namespace BB
open PySem PySem.Builtin PySem.Builtin.Str PySem.StrLaws SX TL NumText

/-- the signs of an int -/
def intL (i : Int) : List Nat := if i < 0 then 45 :: numL i.natAbs else numL i.natAbs
theorem strI_S (i : Int) : Str.ofString (toString i) = S (intL i) := by
  unfold intL
  by_cases h : i < 0
  · rw [if_pos h]
    refine ext_tl ?_
    rw [tl_ofString, PyProof.Rows.toString_neg h]
    have e : (0 : Int) - i = ((i.natAbs : Nat) : Int) := by omega
    rw [String.toList_append, List.map_append, e]
    have e2 := tl_ofString (toString ((i.natAbs : Nat) : Int))
    rw [tl_num] at e2
    rw [← e2]
    rfl
  · rw [if_neg h]
    have e : i = ((i.natAbs : Nat) : Int) := by omega
    rw [show toString i = toString ((i.natAbs : Nat) : Int) from congrArg toString e]
    exact num_S _
/-- the written form -/
def fmtL (r : Rat) : List Nat := if r.den = 1 then intL r.num else intL r.num ++ (47 :: numL r.den)

/-! ### one sign as a separator -/
theorem par1 (s : Nat) : ∀ (l acc : List Nat), (s ∉ l ∧ par [s] acc l = none) ∨ ∃ a b, l = a ++ s :: b ∧ s ∉ a ∧ par [s] acc l = some (acc ++ a, b)
  | [], acc => .inl ⟨by simp, rfl⟩
  | c :: r, acc => by
    by_cases h : c = s
    · subst h
      refine .inr ⟨[], r, rfl, by simp, ?_⟩
      rw [par_hit (show pre [c] (c :: r) = true from pre_self [c] r), List.append_nil]
      rfl
    · rw [par_miss (pre_of_head [] r h)]
      rcases par1 s r (acc ++ [c]) with ⟨h1, h2⟩ | ⟨a, b, e, h1, h2⟩
      · exact .inl ⟨by simp only [List.mem_cons, not_or]; exact ⟨fun z => h z.symm, h1⟩, h2⟩
      · refine .inr ⟨c :: a, b, by rw [e]; rfl, by simp only [List.mem_cons, not_or]; exact ⟨fun z => h z.symm, h1⟩, ?_⟩
        rw [h2, List.append_assoc]
        rfl
theorem partition_S1 {s : Nat} {l : List Nat} (h : s ∉ l) : Txt.partition (S l) (S [s]) = (S l, S [], S []) := by
  rw [partition_par _ _ (by simp), show par (tl (S [s])) [] (tl (S l)) = none from ?_]
  · rfl
  · rcases par1 s l [] with ⟨_, h2⟩ | ⟨a, b, e, _, _⟩
    · exact h2
    · exact absurd (by rw [e]; simp) h
theorem partition_S2 {s : Nat} {a b : List Nat} (h : s ∉ a) : Txt.partition (S (a ++ s :: b)) (S [s]) = (S a, S [s], S b) := by
  rw [partition_par _ _ (by simp), show par (tl (S [s])) [] (tl (S (a ++ s :: b))) = some ([] ++ a, b) from par_part1 (S := []) h]
  rfl

/-! ### the minus sign -/
def minus (l : List Nat) : Bool := l.head? == some 45
def noMinus (l : List Nat) : List Nat := if minus l then l.tail else l
theorem sub0 (l : List Nat) : subAt (S l) (S [45]) 0 = minus l := by
  rw [subAt_eq]
  cases l with
  | nil => rfl
  | cons c r =>
    show ((c :: r).take 1 == [45]) = (some c == some 45)
    rw [List.take_succ_cons, List.take_zero]
    by_cases h : c = 45
    · subst h; rfl
    · rw [beq_eq_false_iff_ne.mpr (by intro z; exact h (List.head_eq_of_cons_eq z)), beq_eq_false_iff_ne.mpr (by intro z; exact h (Option.some.inj z))]
theorem starts_S (l : List Nat) : Txt.startswith (S l) (S [45]) = minus l := by
  unfold Txt.startswith
  rw [sub0]
  cases l with
  | nil => rfl
  | cons c r =>
    rw [decide_eq_true (by simp [Str.length]), Bool.true_and]
theorem remove_S (l : List Nat) : Txt.removeprefix (S l) (S [45]) = S (noMinus l) := by
  unfold Txt.removeprefix noMinus
  rw [sub0]
  cases hm : minus l with
  | false => rfl
  | true =>
    cases l with
    | nil => cases hm
    | cons c r =>
      show Txt.affix (S (c :: r)) (some ((S [45]).length, (S (c :: r)).length)) = S r
      unfold Txt.affix
      have e1 : (S [45]).length = 1 := rfl
      have e2 : (S (c :: r)).length = r.length + 1 := S_len _
      show (if ((S (c :: r)).length - (S [45]).length == (S (c :: r)).length) = true then S (c :: r) else strSub (S (c :: r)) (S [45]).length (S (c :: r)).length) = S r
      rw [if_neg (by rw [e1, e2]; simp), e1]
      refine ext_tl ?_
      rw [tl_strSub_end]
      rfl

/-! ### digits -/
theorem ascii_S {l : List Nat} (h : ∀ c ∈ l, c < 128) : Txt.isascii (S l) = true := by
  unfold Txt.isascii
  rw [← Array.all_toList]
  exact List.all_eq_true.mpr fun c hc => decide_eq_true (h c hc)
theorem digit_ascii : ∀ c : Nat, c < 128 → Unicode.isDigit c = (decide (48 ≤ c) && decide (c ≤ 57)) := by decide +kernel
def digs (l : List Nat) : Bool := l.all fun c => decide (48 ≤ c) && decide (c ≤ 57)
theorem digs_iff {l : List Nat} : digs l = true ↔ AllDigits l := by
  unfold digs
  rw [List.all_eq_true]
  constructor
  · intro h c hc
    have z := h c hc
    rw [Bool.and_eq_true, decide_eq_true_eq, decide_eq_true_eq] at z
    exact z
  · intro h c hc
    rw [Bool.and_eq_true, decide_eq_true_eq, decide_eq_true_eq]
    exact h c hc
theorem isdigit_S {l : List Nat} (h : ∀ c ∈ l, c < 128) : Txt.isdigit (S l) = (decide (0 < l.length) && digs l) := by
  unfold Txt.isdigit digs
  rw [S_len, ← Array.all_toList]
  congr 1
  rw [Bool.eq_iff_iff]
  refine List.all_eq_true.trans (Iff.trans ?_ List.all_eq_true.symm)
  exact ⟨fun z c hc => by rw [← digit_ascii c (h c hc)]; exact z c hc, fun z c hc => by rw [digit_ascii c (h c hc)]; exact z c hc⟩
def digN (l : List Nat) : Option Nat := if l.length ≤ 60 ∧ 0 < l.length ∧ digs l = true then some (digitsVal l) else none
theorem digN_some {l : List Nat} {n : Nat} (h : digN l = some n) : l.length ≤ 60 ∧ 0 < l.length ∧ digs l = true ∧ digitsVal l = n := by
  unfold digN at h
  by_cases c : l.length ≤ 60 ∧ 0 < l.length ∧ digs l = true
  · rw [if_pos c] at h
    exact ⟨c.1, c.2.1, c.2.2, Option.some.inj h⟩
  · rw [if_neg c] at h
    cases h

theorem digits_snoc (l : List Nat) (c : Nat) : digitsVal (l ++ [c]) = digitsVal l * 10 + (c - 48) := by
  unfold digitsVal
  rw [List.foldl_append]
  rfl
theorem revInd {P : List Nat → Prop} (h0 : P []) (hs : ∀ l c, P l → P (l ++ [c])) : ∀ l, P l := fun l => by
  rw [← List.reverse_reverse l]
  induction l.reverse with
  | nil => exact h0
  | cons c r ih => rw [List.reverse_cons]; exact hs _ _ ih
theorem digits_lt : ∀ {l : List Nat}, AllDigits l → digitsVal l < 10 ^ l.length := by
  intro l
  refine revInd (P := fun l => AllDigits l → digitsVal l < 10 ^ l.length) ?_ ?_ l
  · intro _; decide
  · intro l c ih h
    have h1 := ih (fun d hd => h d (List.mem_append_left _ hd))
    have h2 := h c (by simp)
    rw [digits_snoc, List.length_append, List.length_singleton, Nat.pow_succ]
    omega
theorem digits_pos : ∀ {l : List Nat}, AllDigits l → l ≠ [] → l.head? ≠ some 48 → 0 < digitsVal l := by
  intro l
  refine revInd (P := fun l => AllDigits l → l ≠ [] → l.head? ≠ some 48 → 0 < digitsVal l) ?_ ?_ l
  · intro _ h; exact absurd rfl h
  · intro l c ih h _ hh
    have h2 := h c (by simp)
    rw [digits_snoc]
    by_cases hl : l = []
    · subst hl
      have : c ≠ 48 := fun z => hh (by rw [z]; rfl)
      show 0 < 0 * 10 + (c - 48)
      omega
    · have := ih (fun d hd => h d (List.mem_append_left _ hd)) hl (by
        cases l with
        | nil => exact absurd rfl hl
        | cons d r => exact hh)
      omega
/-- digits without a leading zero are the signs of their number -/
theorem canon_num : ∀ {l : List Nat}, AllDigits l → l ≠ [] → (l.length = 1 ∨ l.head? ≠ some 48) → numL (digitsVal l) = l := by
  intro l
  refine revInd (P := fun l => AllDigits l → l ≠ [] → (l.length = 1 ∨ l.head? ≠ some 48) → numL (digitsVal l) = l) ?_ ?_ l
  · intro _ h; exact absurd rfl h
  · intro l c ih h _ hh
    have h2 := h c (by simp)
    rw [digits_snoc]
    by_cases hl : l = []
    · subst hl
      rw [numL_lt (by show 0 * 10 + (c - 48) < 10; omega)]
      show [48 + (0 * 10 + (c - 48))] = [c]
      congr 1
      omega
    · have hh' : l.head? ≠ some 48 := by
        rcases hh with hh | hh
        · rw [List.length_append, List.length_singleton] at hh
          exact absurd (List.length_eq_zero_iff.mp (by omega)) hl
        · cases l with
          | nil => exact absurd rfl hl
          | cons d r => exact hh
      have hd : AllDigits l := fun d hd => h d (List.mem_append_left _ hd)
      have hp := digits_pos hd hl hh'
      rw [numL_step (by omega), show (digitsVal l * 10 + (c - 48)) / 10 = digitsVal l by omega, ih hd hl (.inr hh'), show 48 + (digitsVal l * 10 + (c - 48)) % 10 = c by omega]
theorem numL_lead {n : Nat} : (numL n).length = 1 ∨ (numL n).head? ≠ some 48 := by
  induction n using Nat.strongRecOn with
  | _ n ih =>
    by_cases h : n < 10
    · exact .inl (by rw [numL_lt h]; rfl)
    · right
      rw [numL_step (by omega)]
      have hne := numL_ne (n / 10)
      cases e : numL (n / 10) with
      | nil => exact absurd e hne
      | cons d r =>
        rcases ih (n / 10) (by omega) with h1 | h1
        · rw [e] at h1
          have hr : r = [] := List.length_eq_zero_iff.mp (by simpa using h1)
          subst hr
          show some d ≠ some 48
          intro z
          have z' : d = 48 := Option.some.inj z
          subst z'
          have hv := numL_val (n / 10)
          rw [e] at hv
          have : (0 : Nat) = n / 10 := hv
          omega
        · rw [e] at h1
          exact h1
theorem len_num {n : Nat} : (numL n).length ≤ 60 ↔ n < 10 ^ 60 := by
  constructor
  · intro h
    have := digits_lt (numL_digits n)
    rw [numL_val] at this
    exact Nat.lt_of_lt_of_le this (Nat.pow_le_pow_right (by decide) h)
  · intro h
    exact numL_len (by decide) h
theorem digN_num {n : Nat} (h : n < 10 ^ 60) : digN (numL n) = some n := by
  unfold digN
  rw [if_pos ⟨len_num.mpr h, List.length_pos_iff.mpr (numL_ne n), digs_iff.mpr (numL_digits n)⟩, numL_val]

/-! ### reading a text, as parse_ratio does -/
def signed (b : Bool) (n : Nat) : Int := if b then -(n : Int) else n
def found (l : List Nat) (r : Rat) : Option Rat := if fmtL r = l then some r else none
def parseR (l : List Nat) : Option Rat :=
  match par [47] [] l with
  | none => match digN (noMinus l) with
    | some n => found l (Rat.divInt (signed (minus l) n) 1)
    | none => none
  | some (a, b) => match digN (noMinus a), digN b with
    | some n, some q => if q = 0 then none else found l (Rat.divInt (signed (minus a) n) (q : Int))
    | _, _ => none
theorem int_split (i : Int) : noMinus (intL i) = numL i.natAbs ∧ signed (minus (intL i)) i.natAbs = i := by
  unfold intL
  by_cases h : i < 0
  · rw [if_pos h]
    refine ⟨rfl, ?_⟩
    show -((i.natAbs : Nat) : Int) = i
    omega
  · rw [if_neg h]
    have hm : minus (numL i.natAbs) = false := by
      have hne := numL_ne i.natAbs
      have hf := numL_free (n := i.natAbs) (s := 45) (.inl (by decide))
      cases e : numL i.natAbs with
      | nil => exact absurd e hne
      | cons c r =>
        rw [e] at hf
        exact beq_eq_false_iff_ne.mpr fun z => hf (by rw [Option.some.inj z]; simp)
    unfold noMinus
    rw [hm]
    refine ⟨rfl, ?_⟩
    show ((i.natAbs : Nat) : Int) = i
    omega
theorem int_free (i : Int) : 47 ∉ intL i := by
  unfold intL
  have hf := numL_free (n := i.natAbs) (s := 47) (.inl (by decide))
  split
  · simp only [List.mem_cons, not_or]
    exact ⟨by decide, hf⟩
  · exact hf
theorem div_self (r : Rat) : Rat.divInt r.num (r.den : Int) = r := Rat.num_divInt_den r
/-- the written form is read back -/
theorem parse_fmt {r : Rat} (h1 : r.num.natAbs < 10 ^ 60) (h2 : r.den < 10 ^ 60) : parseR (fmtL r) = some r := by
  obtain ⟨e1, e2⟩ := int_split r.num
  unfold parseR
  by_cases hd : r.den = 1
  · have ef : fmtL r = intL r.num := if_pos hd
    rcases par1 47 (fmtL r) [] with ⟨_, hp⟩ | ⟨a, b, e, _, _⟩
    · rw [hp]
      simp only
      rw [ef, e1, digN_num h1]
      simp only
      rw [e2]
      have er : Rat.divInt r.num 1 = r := by
        have := div_self r
        rw [hd] at this
        exact this
      rw [er]
      unfold found
      rw [if_pos ef]
    · rw [ef] at e
      exact absurd (by rw [e]; simp) (int_free r.num)
  · have ef : fmtL r = intL r.num ++ (47 :: numL r.den) := if_neg hd
    rw [ef, show par [47] [] (intL r.num ++ 47 :: numL r.den) = some ([] ++ intL r.num, numL r.den) from par_part1 (S := []) (int_free r.num)]
    simp only [List.nil_append]
    rw [e1, digN_num h1, digN_num h2]
    simp only
    rw [if_neg r.den_nz, e2, div_self]
    unfold found
    rw [if_pos ef]

theorem found_some {l : List Nat} {r r' : Rat} (h : found l r = some r') : r = r' ∧ fmtL r = l := by
  unfold found at h
  by_cases c : fmtL r = l
  · rw [if_pos c] at h
    exact ⟨Option.some.inj h, c⟩
  · rw [if_neg c] at h
    cases h
/-- what the parts of a text that is read are -/
theorem parse_cases {l : List Nat} {r : Rat} (h : parseR l = some r) : ∃ (t s b : List Nat) (n q : Nat), Txt.partition (S l) (S [47]) = (S t, S s, S b) ∧ (∀ c ∈ t, c ∈ l) ∧ (∀ c ∈ b, c ∈ l) ∧ t.length ≤ l.length ∧ b.length ≤ l.length ∧ digN (noMinus t) = some n ∧
    ((s = [] ∧ q = 1) ∨ (s = [47] ∧ digN b = some q)) ∧ q ≠ 0 ∧ r = Rat.divInt (signed (minus t) n) (q : Int) ∧ fmtL r = l := by
  unfold parseR at h
  rcases par1 47 l [] with ⟨h1, hp⟩ | ⟨a, b, e, h1, hp⟩
  · rw [hp] at h
    simp only at h
    cases hd : digN (noMinus l) with
    | none => rw [hd] at h; cases h
    | some n =>
      rw [hd] at h
      obtain ⟨e1, e2⟩ := found_some h
      exact ⟨l, [], [], n, 1, partition_S1 h1, (fun c hc => hc), (fun c hc => by cases hc), Nat.le_refl _, Nat.zero_le _, hd, .inl ⟨rfl, rfl⟩, by decide, e1.symm, by rw [← e1]; exact e2⟩
  · rw [hp] at h
    simp only [List.nil_append] at h
    cases hd : digN (noMinus a) with
    | none => rw [hd] at h; cases h
    | some n =>
      cases hb : digN b with
      | none => rw [hd, hb] at h; cases h
      | some q =>
        rw [hd, hb] at h
        simp only at h
        by_cases hq : q = 0
        · rw [if_pos hq] at h
          cases h
        · rw [if_neg hq] at h
          obtain ⟨e1, e2⟩ := found_some h
          subst e
          exact ⟨a, [47], b, n, q, partition_S2 h1, fun c hc => by simp [hc], fun c hc => by simp [hc], by simp, by simp; omega, hd, .inr ⟨rfl, hb⟩, hq, e1.symm, by rw [← e1]; exact e2⟩
theorem noMinus_sub {t : List Nat} : ∀ c ∈ noMinus t, c ∈ t := fun c hc => by
  unfold noMinus at hc
  split at hc
  · exact List.mem_of_mem_tail hc
  · exact hc
theorem digN_lt {l : List Nat} {n : Nat} (h : digN l = some n) : n < 10 ^ 60 := by
  obtain ⟨h1, _, h3, h4⟩ := digN_some h
  rw [← h4]
  exact Nat.lt_of_lt_of_le (digits_lt (digs_iff.mp h3)) (Nat.pow_le_pow_right (by decide) h1)
theorem signed_abs (b : Bool) (n : Nat) : (signed b n).natAbs = n := by
  unfold signed
  cases b <;> simp
theorem len_intL {i : Int} (h : i.natAbs < 2 ^ 210) : (intL i).length ≤ 65 := by
  have := numL_len (n := i.natAbs) (k := 64) (by decide) (Nat.lt_trans h (by decide))
  unfold intL
  split
  · rw [List.length_cons]; omega
  · omega
theorem len_fmtL {r : Rat} (h : Sz 210 r) : (fmtL r).length ≤ 130 := by
  have h1 := len_intL h.1
  have h2 := numL_len (n := r.den) (k := 64) (by decide) (Nat.lt_trans h.2 (by decide))
  unfold fmtL
  split
  · omega
  · rw [List.length_append, List.length_cons]; omega
theorem numL_ascii {n c : Nat} (h : c ∈ numL n) : c < 128 := by
  have := numL_digits n c h
  omega
theorem intL_ascii {i : Int} {c : Nat} (h : c ∈ intL i) : c < 128 := by
  unfold intL at h
  split at h
  · rcases List.mem_cons.mp h with h | h
    · omega
    · exact numL_ascii h
  · exact numL_ascii h
theorem fmtL_ascii {r : Rat} {c : Nat} (h : c ∈ fmtL r) : c < 128 := by
  unfold fmtL at h
  split at h
  · exact intL_ascii h
  · rcases List.mem_append.mp h with h | h
    · exact intL_ascii h
    · rcases List.mem_cons.mp h with h | h
      · omega
      · exact numL_ascii h
theorem sz_line {x : Nat} (h : x ≤ 1000) : x ≤ PySem.sizeLine := Nat.le_trans h (by decide)
end BB

set_option maxHeartbeats 4000000
/-! Exc: errors of the text's own, whose maker calls its base's; isinstance of one that bears fields. -/
namespace BB
section
open PySem PySem.W PySem.Spec PySem.Calls PyProof.Rows
variable {prog : Program} {w : World} {A : Around} {E : Value → Shared → Prop} {s : Shared} {K : Frag} {x D : Addr} {ox : Obj} {od : Option Obj}
/-- e.__class__ of an error e, whether it has a dict or none -/
theorem err_class (C : L2.ExcC K D) {Q : Option Value → Shared → Prop} (hf : findObj K D od "__class__" = some (.bind (.builtin "getset_descriptor.__get__") (.builtin "object.__class__")))
    (X : K.In s.heap) (I : InstAt s.heap x ox D od) (q : Q (some (.ref D)) { s with toks := s.toks + 1 }) : wpAny (model prog w) A (getAttr? (.ref x) "__class__") Q E s := by
  rcases s with ⟨hp, g, dr, tk, os⟩
  have ty := I.type (M := model prog w)
  have isB : Looks (model prog w) hp (isInstance (.ref x) (.type "BaseException")) true := ty.andThen (looks_subIn X C.hs)
  have plain : (Value.builtin "BaseException.__getattribute__" == Value.builtin "object.__getattribute__") = false := by decide +kernel
  have way : (onTheHeap (Value.ref D) && Value.builtin "BaseException.__getattribute__" == Value.builtin "object.__getattribute__") = false := by rw [plain]; rfl
  have way2 : (false && onTheHeap (Value.builtin "BaseException.__getattribute__")) = false := rfl
  unfold getAttr? getAttrBy? getAttrBy
  refine wpAny_bind (wpAny_mkText (wpAny_bind (wpAny_attempt (wpAny_holding (wpAny_bind (ty.at (wpAny_bind ((looks_findIn (M := model prog w) X C.hg).at ?_))))))))
  refine (show wpAny _ _ (ite (_ = true) _ _) _ _ _ from ?_)
  rw [way, if_neg Bool.false_ne_true]
  unfold getAttrByItsOwn hookBefore
  refine wpAny_bind ?_
  have on : onTheHeap (Value.ref D) = true := rfl
  rw [if_pos on]
  refine (looks_findIn (M := model prog w) X C.hk).at (wpAny_bind (wpAny_attempt (wpAny_holding ?_)))
  unfold callGetattribute
  rw [way2, if_neg Bool.false_ne_true]
  unfold boundAndCalled
  rw [PySem.F.excAttr_ValueError.ga.bind]
  refine wpAny_bind (wpAny_pure ?_)
  refine (show wpAny _ _ (call (.builtin "BaseException.__getattribute__") [.ref x, .str "__class__" tk]) _ _ _ from ?_)
  refine wpAny_call (codeAny_call_builtin PySem.F.excAttr_ValueError.ga.plain PySem.F.entry_bexc_ga (@check_slot (model prog w) _ _ ⟨hp, g, dr, tk + 1, os⟩ "BaseException.__getattribute__" "BaseException" "__getattribute__" (.ref x) [.str "__class__" tk] [] _ (by decide +kernel) (by decide +kernel) isB (PySem.F.args_bexc_ga _ _) ?_))
  unfold Builtin.«object.__getattribute__»
  refine wpAny_bind (wpAny_of_eq (a := ((Value.ref x : Value), [Value.str "__class__" tk])) (by first | rfl | (simp only [slotArgs]; rfl)) (wpAny_bind (wpAny_pure (wpAny_bind (ty.at (wpAny_bind ((looks_find (M := model prog w) X I hf).at ?_)))))))
  refine (show wpAny _ _ (holding [Value.builtin "object.__class__"] (call (.builtin "getset_descriptor.__get__") [.builtin "object.__class__", .ref x, .ref D]) >>= ret) _ _ _ from ?_)
  refine wpAny_bind (wpAny_holding (wpAny_call (class_get (s := ⟨hp, g, dr, tk + 1, os⟩) X I C.hm (wpAny_pure ?_))))
  refine (show wpAny _ _ (handedOut (.ref D)) _ _ _ from ?_)
  rw [handedOut_of (v := .ref D) rfl]
  first
    | exact wpAny_pure (wpAny_pure q)
    | exact wpAny_pure q
    | exact wpAny_pure (wpAny_bind (wpAny_pure (wpAny_pure q)))
theorem err_found (C : L2.ExcC K D) (o : Obj) : findObj K D (some o) "__class__" = some (.bind (.builtin "getset_descriptor.__get__") (.builtin "object.__class__")) :=
  findObj_data (by obtain ⟨cd, hc, _⟩ := any_some C.hd; rw [hc]; rfl) C.ha C.hn C.ht
theorem err_kit (C : L2.ExcC K D) {o : Obj} : KitX K (.ref x) (.ref D) (fun h => InstAt h x ox D (some o)) where
  ty := fun _ _ _ I => I.type
  it := fun _ _ X _ => by
    have hd := C.hd
    obtain ⟨cd, hc, _⟩ := any_some hd
    unfold clsIn at hc
    split at hc
    · next c' d' cd' sl' ho =>
      intro A' Q' E' s' k q
      unfold isType loadHead
      exact wpAny_bind (wpAny_loadPart (k _ _ (X _ _ ho)) (wpAny_pure q))
    · cases hc
  ne := fun h tp dd its n sl X ht => by
    cases hq : (Value.ref D == Value.ref tp) with
    | false => rfl
    | true =>
      have e : D = tp := Value.ref.inj (beq_iff_eq.mp hq)
      obtain ⟨cd, hc, _⟩ := any_some C.hd
      unfold clsIn at hc
      split at hc
      · next c' d' cd' sl' ho =>
        rw [e] at ho
        have z := (X _ _ ho).symm.trans ht
        cases z
      · cases hc
  ca := fun X I k => err_class C (err_found C o) X I k
end
section
open PySem PySem.Spec PyProof.Rows L2
/-- isinstance(e, c), e the error that the suite holds, of the class at D, with its dict at d -/
def rIsD (K : PySem.W.Frag) (D a d : Addr) : List V → Hp → VK → Prop := fun xs H Q => ∃ (c : V) (cv : Value) (b : Bool) (fs : List (Str × V)), xs = [.ref a, c] ∧ (∀ u, RelV c u → u = cv) ∧ PySem.W.kitOne K (.ref D) cv = some b ∧ H d = some (.xd fs) ∧ Q (.bl b) H
/-- .. of whatever class and dict the suite was given: told only where they are these -/
def rIsAny (K : PySem.W.Frag) (D a : Addr) (cls : Value) (d : Option Addr) : List V → Hp → VK → Prop := fun xs H Q => cls = .ref D ∧ ∃ dd, d = some dd ∧ rIsD K D a dd xs H Q
theorem call_isD {X : Cx} {a D : Addr} {oe : Obj} {cls : Value} {d : Option Addr} {pn : List (Addr × Obj)} (C : ExcC X.K D) (hz : Zc cls d oe) (hf : ∃ vs, oe.data = .fields vs) : CallR (X.suite a ((a, oe) :: pn)) (.builtin "isinstance") (rIsAny X.K D a cls d) := by
  intro pins s σ H xs us Q I r h
  obtain ⟨ec, dd, ed, c, cv, b, fs, rfl, hcv, e, hd, q⟩ := h
  subst ec ed
  obtain ⟨u1, u2, rfl, r1, r2⟩ := vals2 r
  cases r1
  obtain rfl := hcv _ r2
  obtain ⟨ha, _⟩ := I.pin (a, oe) (List.mem_append_left _ List.mem_cons_self)
  obtain ⟨vs, hv⟩ := hf
  obtain ⟨mA, ⟨o, es, ep, ho, _⟩, _⟩ := (show ObjOk X.prog X.w H s.heap dd (.xd fs) from I.hok dd _ hd)
  have J : PySem.W.InstAt s.heap a oe D (some o) := by
    refine ⟨ha, hz.1, ?_, ?_⟩
    · unfold PySem.W.notCls
      rw [hv]
    · rw [hz.2]
      exact ho
  exact PySem.W.kia_one (err_kit C) I.kIn J e (fun z => nomatch z) fun tk => ⟨.bl b, H, I.tok tk, rfl, q⟩

/-! ### Base.__init__(self, ..), Base an own class that has none of its own -/
variable {X : Cx} {B : Addr} {mc : Value} {b : Str} {e : Expr} {es : List Expr} {ta : TA} {p1 p2 pos : Pos}
theorem pe_beinit {pl : Sem Bool} (hg : Gl X b) (hm : X.mg b = some (.ref B)) (rd : ClX.CRead X.K B mc) (vV : PySem.W.findCls X.K (.ref B) mc "__init__" = some (.val (.builtin "ValueError.__init__"))) (ha : PA X (e :: es) ta)
    (hdb : (b == ("__debug__" : Str)) = false := by decide)
    (hc : eval (.Call (.Attribute (.Name b p1) "__init__" p2) (e :: es) [] pos) X.env = (do
      let ov ← eval (.Name b p1) X.env
      standAt p2.atName
      let (f, first) ← holding [ov] (getMethod ov "__init__" pl)
      callWith pos f first (backTo pos (starEach (e :: es) X.env)) (backToKw pos (keywordEach [] X.env))) := by rfl)
    (he : starEach (e :: es) X.env = (false, eval e X.env) :: starEach es X.env := by rfl) (hpl : (backTo pos (starEach es X.env)).any (·.1) = false := by rfl) :
    PE X (.Call (.Attribute (.Name b p1) "__init__" p2) (e :: es) [] pos) (tVeI X.K ta) := by
  constructor
  intro pins s σ H Q I h
  refine PySem.W.methodCall_KW (ld_glob I hg hm (PySem.W.method_cls I.kIn rd.ga (PySem.W.cls_value I.kIn rd.rd vV rfl ?_)) hdb) hc
  refine PyProof.Rows.callWith_method1 (thn (ha.run pos pins _ σ H _ (I.tok _) h) fun us s1 hh => ?_) he hpl
  obtain ⟨vs, H1, I1, r1, a, C, ws, ev, hl, T, ea, q⟩ := hh
  subst ev
  cases r1 with
  | cons rx rw' =>
    cases rx
    refine oinit_ok T I1 ea ?_ fun s' J => ⟨.non, H1, J, rfl, q⟩
    rw [← Paired.length rw']
    exact Nat.le_trans hl (by decide)
end

/-! ### the class BadText: its field at -/
section
open PySem PySem.Spec PyProof.Rows L2
structure BadC (K : PySem.W.Frag) (C : Addr) : Prop where
  o : OexC K C
  noAt : PySem.W.findIn K (.ref C) "at" = some none
  e : ExcC K C
  te : PySem.W.exmOne K (.ref C) (.ref C) = some true
theorem BadC.x {K : PySem.W.Frag} {C : Addr} (B : BadC K C) : XfC K C := ⟨B.e.hg, B.e.hk, B.e.hs, B.e.hd⟩
def spBad (K : PySem.W.Frag) : Sp := fun vs H Q _ => ∃ (a C : Addr) (i : Int), vs = [.ref a, .int i] ∧ BadC K C ∧ i.natAbs < 2 ^ 200 ∧ H a = some (exo a C none) ∧
  ∀ dx, H dx = none → dx ≠ a → Q .non (upd (upd H dx (exd dx [("at", .int i)])) a (exo a C (some dx)))
structure BadD (P : Program) (w : World) (K : PySem.W.Frag) (mg : Str → Option Value) (base : Heap) (k : Nat) (C : Addr) : Prop where
  c : BadC K C
  m : mg "BadText" = some (.ref C)
  ex : ∃ (fI : Addr) (fd : FuncData) (ps : List Str), PySem.W.findIn K (.ref C) "__init__" = some (some (.ref fI)) ∧ PySem.W.typeIn K (.ref fI) = some (.type "function") ∧ FnOk P w K mg base CX0 k fI fd ps (spBad K) ∧ Binds K fd ps []
theorem passF {X : Cx} : Passes CX0 X (fun _ _ _ => False) := fun _ _ _ _ _ _ _ h => h.elim
theorem pmk_bad {X : Cx} {C : Addr} {k j : Nat} {e : Expr} {es : List Expr} {ta : TA} {p pos : Pos} (B : BadD X.prog X.w X.K X.mg X.base k C) (hr : Room j X.A) (hk : k + 1 ≤ j) (hg : Gl X "BadText") (ha : PA X (e :: es) ta)
    (he : starEach (e :: es) X.env = (false, eval e X.env) :: starEach es X.env := by rfl) (hpl : (backTo pos (starEach es X.env)).any (·.1) = false := by rfl) :
    PMk X (.Call (.Name "BadText" p) (e :: es) [] pos) (tMkO C (spBad X.K) [] ta) := by
  obtain ⟨fI, fd, ps, iC, tI, F1, b⟩ := B.ex
  exact pmk_oex B.c.o iC tI F1 (hr.mono hk) b .nil passF hg B.m ha (by decide) he hpl
/-- what BadText(i) leaves -/
theorem bad_made {K : PySem.W.Frag} {H1 : Hp} {C : Addr} {i : Int} {Q : XK} (B : BadC K C) (hi : i.natAbs < 2 ^ 200) (q : ∀ d H', Same H1 H' → H1 d = none → H' d = some (.xd [("at", .int i)]) → Q (.ref C) (some d) H') :
    [V.int i].length ≤ 1000 ∧ ∀ a, H1 a = none → spBad K (.ref a :: ([V.int i] ++ [])) (upd H1 a (exo a C none))
      (fun v H2 => v = .non ∧ ∃ (d : Addr) (fs : List (Str × V)), H2 a = some (exo a C (some d)) ∧ H2 d = some (exd d fs) ∧ H1 d = none ∧ Q (.ref C) (some d) (upd (del H2 a) d (.xd fs))) (fun _ _ _ => False) := by
  refine ⟨(show 1 ≤ 1000 by decide), fun a na => ⟨a, C, i, rfl, B, hi, upd_same, fun dx nd hne => ⟨rfl, dx, [("at", .int i)], upd_same, ?_, ?_, ?_⟩⟩⟩
  · rw [upd_ne hne, upd_same]
  · rw [upd_ne hne] at nd
    exact nd
  · rw [upd_ne hne] at nd
    refine q dx _ (fun b o h => ?_) nd upd_same
    have h1 : b ≠ dx := ne_of_none h nd
    have h2 : b ≠ a := ne_of_none h na
    rw [upd_ne h1, del_ne h2, upd_ne h2, upd_ne h1, upd_ne h2]
    exact h
/-- a def that may raise, called in a try -/
theorem pe_dS {X : Cx} {CX : CXT} {x : Str} {p pos : Pos} {e : Expr} {es : List Expr} {t : TA} {sp : Sp} {k j : Nat} {E : L2.St → XK} (c : Dn X.prog X.w X.K X.mg X.base CX k x sp) (hr : Room j X.A) (hk : k ≤ j) (hg : Gl X x) (hx : ∀ σ, PassesAt CX X σ (E σ)) (ha : PA X (e :: es) t)
    (hdb : (x == ("__debug__" : Str)) = false := by decide) (he : starEach (e :: es) X.env = (false, eval e X.env) :: starEach es X.env := by rfl) (hpl : (backTo pos (starEach es X.env)).any (·.1) = false := by rfl) :
    PE X (.Call (.Name x p) (e :: es) [] pos) (tCallS sp E t) := by
  obtain ⟨f, fd, ps, F, hm, kp, b⟩ := c.ex
  exact pe_callS F (hr.mono hk) hg hm kp b hx ha hdb he hpl
end
end BB

set_option maxHeartbeats 4000000
/-! Err: errors of the text's own that have no maker of their own. -/
namespace BB
open PySem PySem.Spec PyProof.Rows L2
structure ErrD (K : PySem.W.Frag) (mg : Str → Option Value) (x : Str) (C : Addr) : Prop where
  m : mg x = some (.ref C)
  x : PySem.W.excIn K C [.type "ValueError", .type "Exception", .type "BaseException", .type "object"] "ValueError.__new__" = true
  k : PySem.W.keepIn K (.ref C) = true
  b : PySem.W.subIn K (.ref C) (.type "BaseException") = some true
  t : PySem.W.typeIn K (.ref C) = some (.type "type")
  te : PySem.W.exmOne K (.ref C) (.ref C) = some true
  e : ExcC K C
theorem pmk_err {X : Cx} {C : Addr} {x : Str} {p pos : Pos} {e : Expr} {es : List Expr} {t : TA} (B : ErrD X.K X.mg x C) (hg : Gl X x) (ha : PA X (e :: es) t) (hdb : (x == ("__debug__" : Str)) = false := by decide)
    (he : starEach (e :: es) X.env = (false, eval e X.env) :: starEach es X.env := by rfl) (hpl : (backTo pos (starEach es X.env)).any (·.1) = false := by rfl) :
    PMk X (.Call (.Name x p) (e :: es) [] pos) (fun σ H Q => t σ H fun vs H1 => vs.length ≤ sizeLine ∧ Q (.ref C) none H1) :=
  pmk_ownA PySem.F.excBase_ValueError B.x B.m B.k (raises_own B.b B.t) hg ha hdb he hpl
/-- isinstance(e, c) of an error without a dict -/
def rIsNo (K : PySem.W.Frag) (D a : Addr) (cls : Value) (d : Option Addr) : List V → Hp → VK → Prop := fun xs H Q => cls = .ref D ∧ d = none ∧ rIsE K D a xs H Q
theorem call_isN {X : Cx} {a D : Addr} {oe : Obj} {cls : Value} {d : Option Addr} {pn : List (Addr × Obj)} (C : ExcC X.K D) (hz : Zc cls d oe) (hf : ∃ vs, oe.data = .fields vs) : CallR (X.suite a ((a, oe) :: pn)) (.builtin "isinstance") (rIsNo X.K D a cls d) := by
  intro pins s σ H xs us Q I r h
  obtain ⟨rfl, rfl, h⟩ := h
  exact call_isE C hz hf pins s σ H xs us Q I r h
end BB

set_option maxHeartbeats 4000000
/-! Txu: reading a fraction in two ways. -/
namespace BB
open PySem PySem.Builtin PySem.Builtin.Str PySem.StrLaws SX TL NumText

/-- what the shape of a text says of parseR -/
theorem parse_shape (l : List Nat) : ∃ (t s b : List Nat), Txt.partition (S l) (S [47]) = (S t, S s, S b) ∧ (∀ c ∈ t, c ∈ l) ∧ (∀ c ∈ b, c ∈ l) ∧ t.length ≤ l.length ∧ b.length ≤ l.length ∧ (s = [] ∨ s = [47]) ∧
    (digN (noMinus t) = none → parseR l = none) ∧
    (∀ n, digN (noMinus t) = some n → s = [] → parseR l = found l (Rat.divInt (signed (minus t) n) ((1 : Nat) : Int))) ∧
    (∀ n, digN (noMinus t) = some n → s = [47] → digN b = none → parseR l = none) ∧
    (∀ n q, digN (noMinus t) = some n → s = [47] → digN b = some q → parseR l = if q = 0 then none else found l (Rat.divInt (signed (minus t) n) (q : Int))) := by
  rcases par1 47 l [] with ⟨h1, hp⟩ | ⟨a, b, e, h1, hp⟩
  · refine ⟨l, [], [], partition_S1 h1, (fun c hc => hc), (fun c hc => by cases hc), Nat.le_refl _, Nat.zero_le _, .inl rfl, ?_, ?_, ?_, ?_⟩
    · intro hd; unfold parseR; rw [hp]; simp only; rw [hd]
    · intro n hd _; unfold parseR; rw [hp]; simp only; rw [hd]; rfl
    · intro n hd hs; cases hs
    · intro n q hd hs; cases hs
  · rw [List.nil_append] at hp
    subst e
    refine ⟨a, [47], b, partition_S2 h1, (fun c hc => by simp [hc]), (fun c hc => by simp [hc]), by simp, by simp; omega, .inr rfl, ?_, ?_, ?_, ?_⟩
    · intro hd; unfold parseR; rw [hp]; simp only; rw [hd]
    · intro n hd hs; cases hs
    · intro n hd _ hb; unfold parseR; rw [hp]; simp only; rw [hd, hb]
    · intro n q hd _ hb; unfold parseR; rw [hp]; simp only; rw [hd, hb]
theorem digN_none_cases {l : List Nat} (h : digN l = none) : 60 < l.length ∨ l.length = 0 ∨ digs l = false := by
  unfold digN at h
  by_cases c : l.length ≤ 60 ∧ 0 < l.length ∧ digs l = true
  · rw [if_pos c] at h; cases h
  · by_cases c1 : l.length ≤ 60
    · by_cases c2 : 0 < l.length
      · right; right
        cases hd : digs l with
        | true => exact absurd ⟨c1, c2, hd⟩ c
        | false => rfl
      · right; left; omega
    · left; omega

/-- a text's number, -1 where it is none -/
def canonL (l : List Nat) : Bool := decide (1 ≤ l.length) && decide (l.length ≤ 60) && !(decide (1 < l.length) && (l.head? == some 48)) && digs l
def numR (l : List Nat) : Int := if canonL l = true then (digitsVal l : Nat) else -1
theorem canonL_num {n : Nat} (h : n < 10 ^ 60) : canonL (numL n) = true := by
  unfold canonL
  have h1 := len_num.mpr h
  have h2 : 1 ≤ (numL n).length := List.length_pos_iff.mpr (numL_ne n)
  rw [decide_eq_true h1, decide_eq_true h2, digs_iff.mpr (numL_digits n)]
  rcases numL_lead (n := n) with h3 | h3
  · rw [h3]; rfl
  · rw [beq_eq_false_iff_ne.mpr h3, Bool.and_false]; rfl
theorem numR_num {n : Nat} (h : n < 10 ^ 60) : numR (numL n) = n := by
  unfold numR
  rw [if_pos (canonL_num h), numL_val]
theorem numR_of {l : List Nat} (h : 0 ≤ numR l) : ∃ n : Nat, numR l = n ∧ l = numL n ∧ n < 10 ^ 60 := by
  unfold numR at h ⊢
  by_cases c : canonL l = true
  · rw [if_pos c]
    unfold canonL at c
    simp only [Bool.and_eq_true, decide_eq_true_eq, Bool.not_eq_true', Bool.and_eq_false_iff, decide_eq_false_iff_not] at c
    obtain ⟨⟨⟨c1, c2⟩, c3⟩, c4⟩ := c
    have hd := digs_iff.mp c4
    have e : numL (digitsVal l) = l := canon_num hd (List.length_pos_iff.mp c1) (by
      rcases c3 with c3 | c3
      · left; omega
      · right; exact beq_eq_false_iff_ne.mp c3)
    refine ⟨digitsVal l, rfl, e.symm, ?_⟩
    rw [← len_num, e]
    exact c2
  · rw [if_neg c] at h
    omega
/-- the law's own reading -/
def readP (neg : Bool) : List (List Nat) → Option Rat
  | [a] => if numR a < 0 ∨ (numR a = 0 ∧ neg = true) then none else some (Rat.divInt (signed neg (numR a).toNat) 1)
  | [a, b] => if numR a < 0 ∨ (numR a = 0 ∧ neg = true) then none else if numR b < 2 ∨ Nat.gcd (numR a).natAbs (numR b).natAbs ≠ 1 then none else some (Rat.divInt (signed neg (numR a).toNat) (numR b))
  | _ => none
theorem readP1 (neg : Bool) (a : List Nat) : readP neg [a] = if numR a < 0 ∨ (numR a = 0 ∧ neg = true) then none else some (Rat.divInt (signed neg (numR a).toNat) 1) := rfl
theorem readP2 (neg : Bool) (a b : List Nat) : readP neg [a, b] = if numR a < 0 ∨ (numR a = 0 ∧ neg = true) then none else if numR b < 2 ∨ Nat.gcd (numR a).natAbs (numR b).natAbs ≠ 1 then none else some (Rat.divInt (signed neg (numR a).toNat) (numR b)) := rfl
def readR (l : List Nat) : Option Rat := readP (minus l) (spl [47] 0 [] (noMinus l))
theorem mk_num {p : Int} {q : Nat} (hq : q ≠ 0) (hg : Nat.gcd p.natAbs q = 1) : (Rat.divInt p (q : Int)).num = p ∧ (Rat.divInt p (q : Int)).den = q := by
  have e : Rat.divInt p (q : Int) = ⟨p, q, hq, hg⟩ := by rw [Rat.mk_eq_divInt]
  rw [e]
  exact ⟨rfl, rfl⟩
theorem join_minus {l : List Nat} : l = if minus l then 45 :: noMinus l else noMinus l := by
  unfold noMinus
  cases h : minus l with
  | false => rfl
  | true =>
    cases l with
    | nil => cases h
    | cons c r =>
      have : c = 45 := Option.some.inj (beq_iff_eq.mp h)
      rw [this]
      rfl
theorem signed_intL {b : Bool} {n : Nat} (h : ¬ (n = 0 ∧ b = true)) : intL (signed b n) = if b then 45 :: numL n else numL n := by
  unfold signed intL
  cases b with
  | false =>
    show (if ((n : Nat) : Int) < 0 then _ else _) = _
    rw [if_neg (by omega)]
    rfl
  | true =>
    have hn : n ≠ 0 := fun z => h ⟨z, rfl⟩
    show (if -((n : Nat) : Int) < 0 then _ else _) = _
    rw [if_pos (by omega)]
    show 45 :: numL (-((n : Nat) : Int)).natAbs = 45 :: numL n
    rw [Int.natAbs_neg, Int.natAbs_natCast]
theorem signed_na {b : Bool} {n : Nat} : (signed b n).natAbs = n := signed_abs b n
theorem spl_cases (s : Nat) (l : List Nat) : (s ∉ l ∧ spl [s] 0 [] l = [l]) ∨ ∃ a b, l = a ++ s :: b ∧ s ∉ a ∧ spl [s] 0 [] l = a :: spl [s] 0 [] b := by
  rcases par1 s l [] with ⟨h, _⟩ | ⟨a, b, e, h, _⟩
  · exact .inl ⟨h, spl_last1 (S := []) h⟩
  · refine .inr ⟨a, b, e, h, ?_⟩
    rw [e]
    exact spl_part1 (S := []) h
theorem spl_ne (s : Nat) (l : List Nat) : spl [s] 0 [] l ≠ [] := by
  rcases spl_cases s l with ⟨_, h⟩ | ⟨a, b, _, _, h⟩ <;> rw [h] <;> simp
theorem read_eq (l : List Nat) : readR l = parseR l := by
  refine Option.ext fun r => ?_
  constructor
  · intro h
    unfold readR at h
    rcases spl_cases 47 (noMinus l) with ⟨h1, e1⟩ | ⟨a, b, eb, h1, e1⟩
    · rw [e1] at h
      rw [readP1] at h
      by_cases c : numR (noMinus l) < 0 ∨ (numR (noMinus l) = 0 ∧ minus l = true)
      · rw [if_pos c] at h; cases h
      · rw [if_neg c] at h
        obtain ⟨n, en, el, hn⟩ := numR_of (l := noMinus l) (by omega)
        rw [en] at h c
        have er := Option.some.inj h
        rw [Int.toNat_natCast] at er
        obtain ⟨k1, k2⟩ := mk_num (p := signed (minus l) n) (q := 1) (by decide) (Nat.gcd_one_right _)
        have k1' : r.num = signed (minus l) n := by rw [← er]; exact k1
        have k2' : r.den = 1 := by rw [← er]; exact k2
        have ef : fmtL r = l := by
          unfold fmtL
          rw [if_pos k2', k1', signed_intL (by intro z; exact c (.inr ⟨by omega, z.2⟩)), ← el, ← join_minus]
        rw [← ef]
        exact parse_fmt (by rw [k1', signed_na]; exact hn) (by rw [k2']; decide)
    · rcases spl_cases 47 b with ⟨h2, e2⟩ | ⟨a2, b2, _, _, e2⟩
      · rw [e1, e2] at h
        rw [readP2] at h
        by_cases c : numR a < 0 ∨ (numR a = 0 ∧ minus l = true)
        · rw [if_pos c] at h; cases h
        · rw [if_neg c] at h
          by_cases c2 : numR b < 2 ∨ Nat.gcd (numR a).natAbs (numR b).natAbs ≠ 1
          · rw [if_pos c2] at h; cases h
          · rw [if_neg c2] at h
            obtain ⟨n, en, el, hn⟩ := numR_of (l := a) (by omega)
            obtain ⟨q, eq, elq, hq⟩ := numR_of (l := b) (by omega)
            rw [en, eq] at c2 h
            rw [en] at c
            have er := Option.some.inj h
            rw [Int.toNat_natCast] at er
            have hg : Nat.gcd (signed (minus l) n).natAbs q = 1 := by
              rw [signed_na]
              rw [Int.natAbs_natCast, Int.natAbs_natCast] at c2
              by_cases z : Nat.gcd n q = 1
              · exact z
              · exact absurd (.inr z) c2
            obtain ⟨k1, k2⟩ := mk_num (p := signed (minus l) n) (q := q) (by omega) hg
            rw [er] at k1 k2
            have ef : fmtL r = l := by
              unfold fmtL
              rw [if_neg (by rw [k2]; omega), k1, k2, signed_intL (by intro z; exact c (.inr ⟨by omega, z.2⟩))]
              have ej := join_minus (l := l)
              rw [eb, el, elq] at ej
              refine Eq.trans ?_ ej.symm
              cases minus l <;> rfl
            rw [← ef]
            exact parse_fmt (by rw [k1, signed_na]; exact hn) (by rw [k2]; exact hq)
      · rw [e1, e2] at h
        cases hs : spl [47] 0 [] b2 with
        | nil => exact absurd hs (spl_ne 47 b2)
        | cons x y =>
          rw [hs] at h
          cases h
  · intro h
    obtain ⟨t, s, b, n, q, _, _, _, _, _, hn, hq, q0, er, ef⟩ := parse_cases h
    have nlt := digN_lt hn
    have qlt : q < 10 ^ 60 := by
      rcases hq with ⟨_, e⟩ | ⟨_, e⟩
      · rw [e]; decide
      · exact digN_lt e
    have hle := divInt_le (p := signed (minus t) n) (q := (q : Int)) (by omega)
    rw [← er, signed_na, Int.natAbs_natCast] at hle
    have k1 : r.num.natAbs < 10 ^ 60 := Nat.lt_of_le_of_lt hle.1 nlt
    have k2 : r.den < 10 ^ 60 := Nat.lt_of_le_of_lt hle.2 qlt
    have fin : ∀ rest : List Nat, 47 ∉ numL r.num.natAbs := fun _ => numL_free (.inl (by decide))
    obtain ⟨i1, i2⟩ := int_split r.num
    have hneg : ∀ rest : List Nat, minus (intL r.num ++ rest) = minus (intL r.num) ∧ noMinus (intL r.num ++ rest) = numL r.num.natAbs ++ rest := by
      intro rest
      have hne : intL r.num ≠ [] := by
        unfold intL
        split
        · simp
        · exact numL_ne _
      cases e : intL r.num with
      | nil => exact absurd e hne
      | cons c r' =>
        have hm : minus (c :: r' ++ rest) = minus (c :: r') := rfl
        refine ⟨hm, ?_⟩
        rw [← i1, e]
        unfold noMinus
        rw [hm]
        cases minus (c :: r') <;> rfl
    have hz : ¬ ((r.num.natAbs : Int) < 0 ∨ ((r.num.natAbs : Int) = 0 ∧ minus (intL r.num) = true)) := by
      rintro (z | ⟨z, z2⟩)
      · omega
      · have : r.num = 0 := by omega
        rw [this] at z2
        exact absurd z2 (by decide)
    rw [← ef]
    unfold readR fmtL
    by_cases hd : r.den = 1
    · rw [if_pos hd, i1, spl_last1 (S := []) (fin []), List.nil_append]
      rw [readP1]
      rw [numR_num k1, if_neg hz, Int.toNat_natCast, i2]
      have := div_self r
      rw [hd] at this
      exact congrArg some this
    · obtain ⟨m1, m2⟩ := hneg (47 :: numL r.den)
      rw [if_neg hd, m1, m2, show spl [47] 0 [] (numL r.num.natAbs ++ 47 :: numL r.den) = ([] ++ numL r.num.natAbs) :: spl [47] 0 [] (numL r.den) from spl_part1 (S := []) (fin []), spl_last1 (S := []) (numL_free (.inl (by decide))), List.nil_append, List.nil_append]
      rw [readP2]
      have d0 := r.den_nz
      rw [numR_num k1, numR_num k2, if_neg hz, if_neg (by
        rintro (z | z)
        · omega
        · rw [Int.natAbs_natCast, Int.natAbs_natCast] at z
          exact z r.reduced), Int.toNat_natCast, i2]
      exact congrArg some (div_self r)

theorem split_S (l : List Nat) : Txt.split (S l) (S [47]) = (spl [47] 0 [] l).map S := by
  refine map_tl_inj ?_
  rw [split_spl (S l) (S [47]) (by simp) (kind_ok (by decide +kernel)), List.map_map]
  exact (List.map_id _).symm
/-- an ascii text of at most n signs -/
def isT (n : Nat) (l : List Nat) : Prop := (∀ c ∈ l, c < 128) ∧ l.length ≤ n
theorem isT.mono {n m : Nat} {l : List Nat} (h : isT n l) (k : n ≤ m) : isT m l := ⟨h.1, Nat.le_trans h.2 k⟩
theorem isT.app {n m : Nat} {l k : List Nat} (h : isT n l) (h2 : isT m k) : isT (n + m) (l ++ k) := by
  refine ⟨fun c hc => ?_, by rw [List.length_append]; have := h.2; have := h2.2; omega⟩
  rcases List.mem_append.mp hc with hc | hc
  · exact h.1 c hc
  · exact h2.1 c hc
theorem isT.take {n : Nat} {l : List Nat} (h : isT n l) (k : Nat) : isT n (l.take k) := ⟨fun c hc => h.1 c (List.mem_of_mem_take hc), Nat.le_trans (by rw [List.length_take]; omega) h.2⟩
theorem isT.drop {n : Nat} {l : List Nat} (h : isT n l) (k : Nat) : isT n (l.drop k) := ⟨fun c hc => h.1 c (List.mem_of_mem_drop hc), Nat.le_trans (by rw [List.length_drop]; omega) h.2⟩
theorem isT.one {c : Nat} (h : c < 128) : isT 1 [c] := ⟨fun d hd => by rw [List.mem_singleton.mp hd]; exact h, Nat.le_refl _⟩
theorem isT.nil : isT 0 [] := ⟨(fun d hd => by cases hd), Nat.le_refl _⟩
theorem isT.int {i : Int} (h : i.natAbs < 2 ^ 210) : isT 65 (intL i) := ⟨fun c hc => intL_ascii hc, len_intL h⟩
theorem isT.num {n : Nat} (h : n < 2 ^ 210) : isT 64 (numL n) := ⟨fun c hc => numL_ascii hc, numL_len (by decide) (Nat.lt_trans h (by decide))⟩
theorem isT.line {n : Nat} {l : List Nat} (h : isT n l) (k : n ≤ 1000) : (S l).length ≤ sizeLine := sz_line (by rw [S_len]; exact Nat.le_trans h.2 k)
theorem isT.two {n m : Nat} {l k : List Nat} (h : isT n l) (h2 : isT m k) (e : n + m ≤ 1000) : (S l).length + (S k).length ≤ sizeLine := sz_line (by rw [S_len, S_len]; have := h.2; have := h2.2; omega)
theorem minus_slice (l : List Nat) : (Txt.slice (S l) none (some 1) = S [45]) ↔ minus l = true := by
  rw [slice_to (by decide)]
  constructor
  · intro h
    have h2 : l.take 1 = [45] := S_inj h
    cases l with
    | nil => cases h2
    | cons c r =>
      have : c = 45 := List.head_eq_of_cons_eq h2
      rw [this]
      rfl
  · intro h
    cases l with
    | nil => cases h
    | cons c r =>
      have : c = 45 := Option.some.inj (beq_iff_eq.mp h)
      rw [this]
      rfl
theorem minus_rest {l : List Nat} (h : minus l = true) : Txt.slice (S l) (some 1) none = S (noMinus l) := by
  rw [slice_from (by decide)]
  unfold noMinus
  rw [if_pos h]
  congr 1
  exact List.drop_one
theorem digit_mem (c : Nat) : c ∈ (Str.ofString "0123456789").cps.toList ↔ 48 ≤ c ∧ c ≤ 57 := by
  rw [show (Str.ofString "0123456789").cps.toList = [48, 49, 50, 51, 52, 53, 54, 55, 56, 57] by decide]
  simp only [List.mem_cons, List.not_mem_nil, or_false]
  omega
theorem numR_not {l : List Nat} (h : canonL l = false) : numR l = -1 := by
  unfold numR
  rw [h]
  rfl
theorem at_sign {T : Str} {m : Nat} (h : ((List.range m).all fun k => match L2.atI T.cps.toList (k : Int) with | some c => decide (c < 128) | none => false) = true) {i : Int} (h0 : 0 ≤ i) (h1 : i < m) : ∃ c, L2.atI T.cps.toList i = some c ∧ c < 128 := by
  obtain ⟨k, rfl⟩ := Int.eq_ofNat_of_zero_le h0
  have z := List.all_eq_true.mp h k (List.mem_range.mpr (by omega))
  cases e : L2.atI T.cps.toList (k : Int) with
  | none => rw [e] at z; cases z
  | some c => rw [e] at z; exact ⟨c, rfl, of_decide_eq_true z⟩
end BB

set_option maxHeartbeats 4000000
/-! Mkt: names, goods, people. -/
namespace BB
open PySem PySem.Spec PyProof.Rows L2
abbrev Nm := List Nat
abbrev Psn := Nm × Nm
def nmD (l : Nm) : PyData := .str (SX.S l)
def psD (p : Psn) : PyData := .tuple [.str (SX.S p.1), .str (SX.S p.2)]
def namesD (gs : List Nm) : PyData := .list (gs.map nmD)
def peopleD (ps : List Psn) : PyData := .list (ps.map psD)
abbrev sV (gs : List Nm) : List V := gs.map fun l => V.str (SX.S l)
theorem sV_dp {K : PySem.W.Frag} {H : Hp} : ∀ gs : List Nm, DpAll K H (sV gs) (gs.map nmD)
  | [] => .nil
  | g :: gs => .cons (.str _) (sV_dp gs)
theorem sV_of {K : PySem.W.Frag} {H : Hp} : ∀ {gs : List Nm} {xs : List V}, DpAll K H xs (gs.map nmD) → xs = sV gs
  | [], _, h => by cases h; rfl
  | g :: gs, _, h => by
    cases h with
    | cons a b => rw [dp_str a, sV_of b]; rfl
theorem sV_flat (gs : List Nm) : (sV gs).all flatV = true := by
  rw [List.all_eq_true]
  intro x hx
  obtain ⟨t, _, rfl⟩ := List.mem_map.mp hx
  rfl
structure okMk (gs : List Nm) (ps : List Psn) : Prop where
  g1 : 1 ≤ gs.length
  g4 : gs.length ≤ 4
  p1 : 1 ≤ ps.length
  p4 : ps.length ≤ 4
  g : ∀ l ∈ gs, isT 13 l
  p : ∀ p ∈ ps, isT 13 p.1 ∧ isT 13 p.2
def marketD (gs : List Nm) (ps : List Psn) : PyData := .tuple [namesD gs, peopleD ps]
/-- a Market object -/
def MktAt (K : PySem.W.Frag) (H : Hp) (a : Addr) (gs : List Nm) (ps : List Psn) : Prop := ∃ v w, Fld K H a "goods" v ∧ Dp K H v (namesD gs) ∧ Fld K H a "people" w ∧ Dp K H w (peopleD ps)
theorem MktAt.same {K : PySem.W.Frag} {H H' : Hp} {a : Addr} {gs : List Nm} {ps : List Psn} (e : Same H H') (h : MktAt K H a gs ps) : MktAt K H' a gs ps :=
  let ⟨v, w, h1, h2, h3, h4⟩ := h; ⟨v, w, h1.same e, dp_same e h2, h3.same e, dp_same e h4⟩
def headR (ps : List Psn) (x : Str) : Option Nm := (ps.find? fun p => decide (SX.S p.1 = x)).map (·.2)
theorem sV_snoc (gs : List Nm) (l : Nm) : sV (gs ++ [l]) = sV gs ++ [V.str (SX.S l)] := List.map_append
def MktN (K : PySem.W.Frag) (H₀ H : Hp) (a : Addr) (gs : List Nm) (ps : List Psn) : Prop := ∃ v w, Fld K H a "goods" v ∧ Dp K (fresh H₀ H) v (namesD gs) ∧ Fld K H a "people" w ∧ Dp K (fresh H₀ H) w (peopleD ps)
theorem MktN.at {K : PySem.W.Frag} {H₀ H : Hp} {a : Addr} {gs : List Nm} {ps : List Psn} (h : MktN K H₀ H a gs ps) : MktAt K H a gs ps :=
  let ⟨v, w, h1, h2, h3, h4⟩ := h; ⟨v, w, h1, dp_same fresh_sub h2, h3, dp_same fresh_sub h4⟩
theorem MktN.old {K : PySem.W.Frag} {H₀ H₁ H : Hp} {a : Addr} {gs : List Nm} {ps : List Psn} (e : Same H₀ H₁) (h : MktN K H₁ H a gs ps) : MktN K H₀ H a gs ps :=
  let ⟨v, w, h1, h2, h3, h4⟩ := h; ⟨v, w, h1, dp_same (fresh_old e) h2, h3, dp_same (fresh_old e) h4⟩
theorem grow_ps {K : PySem.W.Frag} {H₀ H : Hp} {Ds : List Addr} (e : Same H₀ H) (hD : ∀ D ∈ Ds, soft (H D) = false) : ∀ {ps : List Psn} {vs : List V}, DpAll K H vs (ps.map psD) → DpAll K (but (fresh H₀ H) Ds) vs (ps.map psD)
  | [], _, h => by cases h; exact .nil
  | p :: ps, _, h => by
    cases h with
    | cons a b =>
      obtain ⟨t, zs, rfl, ht, hz⟩ := dp_tup a
      obtain ⟨z1, z2, rfl, g1, g2⟩ := dpa_two hz
      cases dp_str g1
      cases dp_str g2
      exact .cons (.tup (sqt_grow e hD ht) (.cons (.str _) (.cons (.str _) .nil))) (grow_ps e hD b)
theorem find_first {ps : List Psn} {k : Nat} {p : Psn} {x : Str} (e : ps[k]? = some p) (hno : ∀ q ∈ ps.take k, ¬ SX.S q.1 = x) (h : SX.S p.1 = x) : (ps.find? fun p => decide (SX.S p.1 = x)) = some p := by
  induction ps generalizing k with
  | nil => simp at e
  | cons q ps ih =>
    rw [List.find?_cons]
    cases k with
    | zero =>
      cases Option.some.inj e
      rw [decide_eq_true h]
    | succ k =>
      have hq := hno q (by rw [List.take_succ_cons]; exact List.mem_cons_self)
      rw [decide_eq_false hq]
      exact ih (k := k) e fun r hr => hno r (by rw [List.take_succ_cons]; exact List.mem_cons_of_mem _ hr)
theorem find_none {ps : List Psn} {x : Str} (hno : ∀ q ∈ ps, ¬ SX.S q.1 = x) : headR ps x = none := by
  unfold headR
  rw [List.find?_eq_none.mpr fun q hq z => hno q hq (of_decide_eq_true z)]
  rfl
theorem shaped_lst {ds : List PyData} {n : Nat} (hn : n ≤ 60) (h : ∀ d ∈ ds, d.canLay0 = true ∧ d.depth ≤ n) : SeqAt.shaped (.list ds) = true := by
  have h1 : PyData.canLayAll0 ds = true := by
    induction ds with
    | nil => rfl
    | cons d ds ih =>
      show (d.canLay0 && PyData.canLayAll0 ds) = true
      rw [(h d List.mem_cons_self).1, ih fun x hx => h x (List.mem_cons_of_mem _ hx)]
      rfl
  have h2 : PyData.depthAll ds ≤ n := by
    induction ds with
    | nil => exact Nat.zero_le _
    | cons d ds ih =>
      show max d.depth (PyData.depthAll ds) ≤ n
      have := (h d List.mem_cons_self).2
      have := ih (fun x hx => h x (List.mem_cons_of_mem _ hx)) (by
        have z : (d.canLay0 && PyData.canLayAll0 ds) = true := h1
        exact (Bool.and_eq_true_iff.mp z).2)
      omega
  unfold SeqAt.shaped
  have h3 : (PyData.list ds).canLay0 = true := h1
  have h4 : (PyData.list ds).depth ≤ 64 := by
    show PyData.depthAll ds + 1 ≤ 64
    omega
  rw [h3, decide_eq_true h4]
  rfl
theorem strOk_of {l : Nm} (h : isT 13 l) : PyData.strOk (SX.S l) = true := by
  unfold PyData.strOk
  rw [Array.all_eq_true']
  intro c hc
  have := h.1 c (by simpa [SX.S] using hc)
  simp
  omega
theorem names_shaped {gs : List Nm} (h : ∀ l ∈ gs, isT 13 l) : SeqAt.shaped (namesD gs) = true := shaped_lst (n := 3) (by decide) fun d hd => by
  obtain ⟨g, hg, rfl⟩ := List.mem_map.mp hd
  exact ⟨strOk_of (h g hg), Nat.zero_le _⟩
theorem people_shaped {ps : List Psn} (h : ∀ p ∈ ps, isT 13 p.1 ∧ isT 13 p.2) : SeqAt.shaped (peopleD ps) = true := shaped_lst (n := 3) (by decide) fun d hd => by
  obtain ⟨g, hg, rfl⟩ := List.mem_map.mp hd
  refine ⟨?_, by show max 0 (max 0 0) + 1 ≤ 3; decide⟩
  show (PyData.strOk _ && (PyData.strOk _ && true)) = true
  rw [strOk_of (h g hg).1, strOk_of (h g hg).2]
  rfl
theorem head_in (ps : List Psn) (x : Str) : inV (.str x) (sV (ps.map (·.1))) = (headR ps x).isSome := by
  unfold headR inV
  rw [Option.isSome_map]
  induction ps with
  | nil => rfl
  | cons p ps ih =>
    rw [List.map_cons, sV, List.map_cons, List.any_cons, List.find?_cons]
    by_cases e : SX.S p.1 = x
    · rw [decide_eq_true e]
      have : eqV (.str (SX.S p.1)) (.str x) = true := by
        show (SX.S p.1 == x) = true
        rw [e]; simp
      rw [this]; rfl
    · rw [decide_eq_false e]
      have : eqV (.str (SX.S p.1)) (.str x) = false := by
        show (SX.S p.1 == x) = false
        exact beq_eq_false_iff_ne.mpr e
      rw [this]
      exact ih
theorem head_idx {ps : List Psn} {x : Str} {h : Nm} (e : headR ps x = some h) : ∃ (i : Nat) (p : Psn), ps[i]? = some p ∧ p.2 = h ∧ SX.S p.1 = x ∧ (sV (ps.map (·.1)))[i]? = some (.str x) ∧ ∀ (m : Nat) (z : V), m < i → (sV (ps.map (·.1)))[m]? = some z → eqV z (.str x) = false := by
  induction ps with
  | nil => cases e
  | cons p ps ih =>
    unfold headR at e
    rw [List.find?_cons] at e
    by_cases q : SX.S p.1 = x
    · rw [decide_eq_true q] at e
      refine ⟨0, p, rfl, Option.some.inj e, q, ?_, fun m z hm => absurd hm (Nat.not_lt_zero _)⟩
      show some (V.str (SX.S p.1)) = _
      rw [q]
    · rw [decide_eq_false q] at e
      obtain ⟨i, p', h1, h2, h3, h4, h5⟩ := ih e
      refine ⟨i + 1, p', h1, h2, h3, h4, fun m z hm hz => ?_⟩
      cases m with
      | zero =>
        cases Option.some.inj hz
        show (SX.S p.1 == x) = false
        exact beq_eq_false_iff_ne.mpr q
      | succ m => exact h5 m z (Nat.lt_of_succ_lt_succ hm) hz
theorem cutV_drop {xs : List V} {i : Nat} (h : i ≤ xs.length) : cutV xs (some (i : Int)) none = xs.drop i := by
  unfold cutV
  rw [HT.sIx_nat, HT.sIx_none, Nat.min_eq_left h]
  exact List.take_of_length_le (by rw [List.length_drop]; exact Nat.le_refl _)
theorem cutV_take {xs : List V} {i : Nat} (h : i ≤ xs.length) : cutV xs none (some (i : Int)) = xs.take i := by
  unfold cutV
  rw [HT.sIx_nat, HT.sIx_none, Nat.min_eq_left h, List.drop_zero, Nat.sub_zero]
end BB

/-! own short words of tactics -/
local macro_rules | `(tactic| walk_at "sq") => `(tactic| first
  | assumption
  | (refine sqt_upd (by assumption) ?_; walk_at "sq")
  | (refine sql_upd (by assumption) ?_; walk_at "sq")
  | (refine IsF.new (by assumption) ?_; walk_at "sq")
  | (refine sqt_same (by assumption) ?_; walk_at "sq")
  | (refine Same.seq (by assumption) ?_; walk_at "sq")
  | (refine IsF.same (by assumption) ?_; walk_at "sq"))
local macro_rules | `(tactic| walk_at "go") => `(tactic| repeat (first
  | refine ⟨_, rfl, ?_⟩
  | refine ⟨_, _, rfl, rfl, ?_⟩
  | refine .inl ⟨_, rfl, ?_⟩))

namespace BB
open PySem PySem.Spec PyProof.Rows L2
def topS (i : Nat) : Stmt := PySem.Challenge.pw_buybook_k09_heads.main.body.getD i (.Pass ⟨0, 0, 0, 0⟩)
abbrev s__law_row : Stmt := topS 9
abbrev N__law_row : List Str := ["script", "place", "many", "cell", "rest", "row", "k", "mixed"]
theorem sc__law_row : FnScope N__law_row ["script", "place", "many"] (defScope s__law_row) := ⟨rfl, rfl, rfl, by decide +kernel, rfl, by decide +kernel, by decide +kernel⟩
abbrev s__law_kept : Stmt := topS 10
abbrev N__law_kept : List Str := []
theorem sc__law_kept : FnScope N__law_kept [] (defScope s__law_kept) := ⟨rfl, rfl, rfl, by decide +kernel, rfl, by decide +kernel, by decide +kernel⟩
abbrev s__law_name : Stmt := topS 11
abbrev N__law_name : List Str := ["row", "k", "letters", "text", "size", "alike", "i", "at"]
theorem sc__law_name : FnScope N__law_name ["row", "k"] (defScope s__law_name) := ⟨rfl, rfl, rfl, by decide +kernel, rfl, by decide +kernel, by decide +kernel⟩
abbrev s__law_market : Stmt := topS 12
abbrev N__law_market : List Str := ["script", "place", "shape", "first", "second", "goods", "people", "k", "head", "earlier"]
theorem sc__law_market : FnScope N__law_market ["script", "place"] (defScope s__law_market) := ⟨rfl, rfl, rfl, by decide +kernel, rfl, by decide +kernel, by decide +kernel⟩
abbrev s_head_of : Stmt := topS 7
abbrev N_head_of : List Str := ["market", "person", "name", "head"]
theorem sc_head_of : FnScope N_head_of ["market", "person"] (defScope s_head_of) := ⟨rfl, rfl, rfl, by decide +kernel, rfl, by decide +kernel, by decide +kernel⟩
abbrev s__law_told : Stmt := topS 13
abbrev N__law_told : List Str := ["market", "person", "e"]
theorem sc__law_told : FnScope N__law_told ["market", "person"] (defScope s__law_told) := ⟨rfl, rfl, rfl, by decide +kernel, rfl, by decide +kernel, by decide +kernel⟩
abbrev s_Market_init : Stmt := inClass (topS 6) 0
abbrev N_Market_init : List Str := ["self", "goods", "people"]
theorem sc_Market_init : FnScope N_Market_init ["self", "goods", "people"] (defScope s_Market_init) := ⟨rfl, rfl, rfl, by decide +kernel, rfl, by decide +kernel, by decide +kernel⟩
abbrev s_law : Stmt := topS 14
abbrev N_law : List Str := ["script", "goods", "people", "market", "row", "names", "asked", "turn", "person", "known", "actual", "one"]
theorem sc_law : FnScope N_law ["script"] (defScope s_law) := ⟨rfl, rfl, rfl, by decide +kernel, rfl, by decide +kernel, by decide +kernel⟩
section
variable {P : Program} {w : World} {K : PySem.W.Frag} {mg : Str → Option Value} {base : Heap}
def sp__law_row (K : PySem.W.Frag) : Sp := fun vs H Q _ => ∃ (a : Addr) (ns : List Int) (pl m : Nat), vs = [.ref a, .int (pl : Int), .int (m : Int)] ∧ SqL K H a (ns.map V.int) ∧ m ≤ 1000 ∧
  ∀ H' p row, Same H H' → H p = none → isRow row m → H' p = some (.lst (row.map V.int)) → Q (.ref p) H'
def sp__law_kept (K : PySem.W.Frag) : Sp := fun vs H Q _ => vs = [] ∧ ∀ H' p, Same H H' → H p = none → H' p = some (.lst [.str "market", .str "goods", .str "people", .str "end", .str "as", .str "better", .str "well", .str "than"]) → Q (.ref p) H'
def sp__law_name (K : PySem.W.Frag) : Sp := fun vs H Q _ => ∃ (a : Addr) (row : List Int) (n k : Nat), vs = [.ref a, .int (k : Int)] ∧ SqL K H a (row.map V.int) ∧ isRow row n ∧ 15 ≤ n ∧ n ≤ 1000 ∧ k ≤ 100 ∧ ∀ l, isT 13 l → ∀ H', Same H H' → Q (.str (SX.S l)) H'
def sp__law_market (K : PySem.W.Frag) : Sp := fun vs H Q _ => ∃ (a : Addr) (ns : List Int) (pl : Nat), vs = [.ref a, .int (pl : Int)] ∧ SqL K H a (ns.map V.int) ∧ ∀ gs ps, okMk gs ps → ∀ (H' : Hp) (t D q : Addr) (es : List V), Same H H' → H t = none → H D = none → H q = none → SqT K H' t [.ref D, .ref q] → H' D = some (.lst (sV gs)) → H' q = some (.lst es) → DpAll K (fresh H H') es (ps.map psD) → Q (.ref t) H'
def sp_head_of (K : PySem.W.Frag) (C : Addr) : Sp := fun vs H Q E => ∃ (a : Addr) (x : Str) (gs : List Nm) (ps : List Psn), vs = [.ref a, .str x] ∧ MktAt K H a gs ps ∧ x.length ≤ 1000 ∧ (∀ h, headR ps x = some h → Q (.str (SX.S h)) H) ∧ (headR ps x = none → E (.ref C) none H)
def sp__law_told (K : PySem.W.Frag) : Sp := fun vs H Q _ => ∃ (a : Addr) (x : Str) (gs : List Nm) (ps : List Psn), vs = [.ref a, .str x] ∧ MktAt K H a gs ps ∧ x.length ≤ 1000 ∧ (∀ h, headR ps x = some h → ∀ H' t, Same H H' → H t = none → SqT K H' t [.bl true, .str (SX.S h)] → Q (.ref t) H') ∧ (headR ps x = none → ∀ H' t, Same H H' → H t = none → SqT K H' t [.bl false, .bl true] → Q (.ref t) H')
def sp_Market_init (K : PySem.W.Frag) (C : Addr) : Sp := fun vs H Q _ => ∃ (H₀ : Hp) (p dx : Addr) (gs : List Nm) (ps : List Psn) (vg vp : V), vs = [.ref p, vg, vp] ∧ Same H₀ H ∧ H₀ p = none ∧ H p = some (.ins C dx []) ∧ Dp K H₀ vg (namesD gs) ∧ Dp K H₀ vp (peopleD ps) ∧ gs.length ≤ 1000 ∧ ps.length ≤ 1000 ∧
  ∀ H' fs, Same H₀ H' → H' p = some (.ins C dx fs) → MktN K H₀ H' p gs ps → Q .non H'
def sp_law (K : PySem.W.Frag) : Sp := fun vs H Q _ => ∃ (a : Addr) (ns : List Int), vs = [.ref a] ∧ SqL K H a (ns.map V.int) ∧ ns.length ≤ 63 ∧ ∀ H', Q (.bl true) H'
theorem ok__law_row {f : Addr} {fd : FuncData} (F : Fun K "_law_row" "_law_row" s__law_row f fd) (m_range : mg "range" = none) (m_len : mg "len" = none) (m_int : mg "int" = none) : FnOk P w K mg base CX0 1 f fd ["script", "place", "many"] (sp__law_row K) := by
  refine F.ok sc__law_row (fun vs H Q E h => ?_) (fun cdv A outer s H vs Q E hr h => ?_)
  · obtain ⟨a, ns, pl, m, rfl, _⟩ := h
    rfl
  · refine ⟨_, (pss_cons (ps_set (i := 3) sc__law_row.nd rfl (Or.inl rfl) (pe_op op_add (pe_op op_mulG pe_int (pv 1)) pe_int))
      (C8.pss_cut (ps_if (pt_cmpR op_lt (pv 1) (pe_callB call_len_seq (by rfl) m_len (by decide +kernel) (pa_cons (pv 0) pa_nil)) (nomark _))
      (pss_one (ps_set (i := 3) sc__law_row.nd rfl (Or.inl rfl) (pe_ix ix_list (pv 0) (pv 1) (fun _ _ => rfl))))
      pss_nil)
      (pss_cons (ps_set (i := 4) sc__law_row.nd rfl (Or.inl rfl) (pe_op op_sub (pv 3) (pe_op op_pow pe_int pe_int)))
      (pss_cons (ps_set (i := 5) sc__law_row.nd rfl (Or.inl rfl) (pe_lst pa_nil))
      (pss_cons (ps_for PassesOwn.never rfl (pi_range1 rfl m_range (pa_cons (pv 2) pa_nil)) (pg_name (i := 6) sc__law_row.nd rfl (Or.inl rfl))
      (pss_one (ps_if (pt_cmpR op_gt (pv 4) pe_int (nomark _))
      (pss_cons (ps_expr (pe_bm PySem.F.plainAttrs_list PySem.F.slot_list_append PySem.F.type_list_append mt_append (pv 5) (pa_cons (pe_op op_mod (pe_callTy call_int1 (by rfl) m_int (by decide +kernel) (pa_cons (pv 4) pa_nil)) pe_int) pa_nil)))
      (pss_one (ps_set (i := 4) sc__law_row.nd rfl (Or.inl rfl) (pe_op op_fdiv (pv 4) pe_int))))
      (pss_cons (ps_set (i := 7) sc__law_row.nd rfl (Or.inl rfl) (pe_op op_mod (pe_callTy call_int1 (by rfl) m_int (by decide +kernel) (pa_cons (pe_op op_add (pe_op op_add (pe_op op_mulG (pv 3) pe_int) (pe_op op_mulG (pv 6) pe_int)) pe_int) pa_nil)) pe_int))
      (pss_cons (ps_set (i := 7) sc__law_row.nd rfl (Or.inl rfl) (pe_op op_mod (pe_callTy call_int1 (by rfl) m_int (by decide +kernel) (pa_cons (pe_op op_add (pe_op op_add (pe_op op_mulG (pv 7) (pv 7)) (pe_op op_mulG (pv 7) pe_int)) (pe_op op_mulG (pv 6) pe_int)) pa_nil)) pe_int))
      (pss_one (ps_expr (pe_bm PySem.F.plainAttrs_list PySem.F.slot_list_append PySem.F.type_list_append mt_append (pv 5) (pa_cons (pe_op op_mod (pe_op op_fdiv (pv 7) pe_int) pe_int) pa_nil)))))))))
      (pss_one (ps_ret (pv 5)))))))), ?_⟩
    obtain ⟨a, ns, pl, m, rfl, hS, hm, Z⟩ := h
    refine ⟨_, rfl, _, _, rfl, rfl, mulG_l (by decide), _, _, rfl, rfl, ?_⟩
    refine ⟨fun σ H1 => H1 = H ∧ ∃ c : Int, σ = [some (.ref a), some (.int (pl : Int)), some (.int (m : Int)), some (.int c), none, none, none, none], ?_, ?_⟩
    · refine ⟨_, rfl, _, rfl, a, _, rfl, .inl hS, _, _, rfl, rfl, _, rfl, ite2 (fun e => ?_) (fun e => ⟨rfl, _, rfl⟩)⟩
      have e' : (pl : Int) < (ns.map V.int).length := of_decide_eq_true e
      rw [List.length_map] at e'
      have g : (ns.map V.int)[pl]? = some (.int (ns[pl]'(by omega))) := by
        rw [List.getElem?_map, List.getElem?_eq_getElem (by omega)]
        rfl
      exact ⟨_, rfl, _, rfl, _, _, _, _, rfl, rfl, hS, atI_nat g, rfl, _, rfl⟩
    · rintro σ H1 ⟨rfl, c, rfl⟩
      refine ⟨_, rfl, _, _, rfl, rfl, ⟨by decide, by decide, by decide⟩, _, _, rfl, rfl, Nat.zero_le _, fun o no => ?_⟩
      refine ⟨_, rfl, _, rfl, by omega, by omega, ?_⟩
      refine for_range (lo := 0) (n := m) (fun i σ H2 => ∃ (r : Int) (y6 y7 : Option V), σ = [some (.ref a), some (.int (pl : Int)), some (.int (m : Int)), some (.int c), some (.int r), some (.ref o), y6, y7] ∧ RowAt H1 H2 o i)
        ⟨_, _, _, rfl, RowAt.start no⟩ ?_ ?_
      · rintro i σ H2 hi ⟨r, y6, y7, rfl, ra⟩
        obtain ⟨_, sm, rw, hrw, eo⟩ := id ra
        have hsz : (rw.map V.int).length < sizeLine := by
          rw [List.length_map, hrw.1]; exact small1000 (by omega)
        refine ⟨_, rfl, _, _, rfl, rfl, _, rfl, ite2 (fun e => ?_) (fun e => ?_)⟩
        · refine ⟨_, rfl, .inl ⟨rfl, _, .inl (.inl eo)⟩, _, rfl, .inl ⟨_, rfl, _, _, rfl, rfl, by show (0 : Int) < 1000; decide, _, _, _, rfl, rfl, eo, hsz, ?_⟩⟩
          refine ⟨_, rfl, _, _, rfl, rfl, ⟨by decide, by decide⟩, ?_⟩
          exact ⟨_, _, _, rfl, ra.push eo (by omega) (by omega)⟩
        · refine ⟨_, rfl, _, _, rfl, rfl, mulG_r (by decide), _, rfl, _, _, rfl, rfl, mulG_r (by decide), _, _, rfl, rfl, _, _, rfl, rfl, .inl ⟨_, rfl, _, _, rfl, rfl, by show (0 : Int) < 2147483647; decide, ?_⟩⟩
          refine ⟨_, rfl, _, rfl, _, _, rfl, rfl, mulG_l (by omega), _, rfl, _, _, rfl, rfl, mulG_r (by decide), _, _, rfl, rfl, _, rfl, _, _, rfl, rfl, mulG_r (by decide), _, _, rfl, rfl, .inl ⟨_, rfl, _, _, rfl, rfl, by show (0 : Int) < 2147483399; decide, ?_⟩⟩
          refine ⟨_, rfl, .inl ⟨rfl, _, .inl (.inl eo)⟩, _, rfl, _, _, rfl, rfl, ⟨by decide, by decide⟩, _, _, rfl, rfl, by show (0 : Int) < 1000; decide, _, _, _, rfl, rfl, eo, hsz, ?_⟩
          exact ⟨_, _, _, rfl, ra.push eo (by omega) (by omega)⟩
      · rintro σ H2 ⟨r, y6, y7, rfl, _, sm, rw, hrw, eo⟩
        exact ⟨_, rfl, Z _ _ _ sm no hrw eo⟩
theorem ok__law_kept {f : Addr} {fd : FuncData} (F : Fun K "_law_kept" "_law_kept" s__law_kept f fd) : FnOk P w K mg base CX0 1 f fd [] (sp__law_kept K) := by
  refine F.ok sc__law_kept (fun vs H Q E h => ?_) (fun cdv A outer s H vs Q E hr h => ?_)
  · obtain ⟨rfl, _⟩ := h
    rfl
  · refine ⟨_, (pss_one (ps_ret (pe_lst (pa_cons pe_str (pa_cons pe_str (pa_cons pe_str (pa_cons pe_str (pa_cons pe_str (pa_cons pe_str (pa_cons pe_str (pa_cons pe_str pa_nil))))))))))), ?_⟩
    obtain ⟨rfl, Z⟩ := h
    refine ⟨(show 8 ≤ sizeLine by decide), fun p np => ?_⟩
    exact Z _ p (same_upd np) np upd_same
theorem ok__law_name {f : Addr} {fd : FuncData} (F : Fun K "_law_name" "_law_name" s__law_name f fd) (D__law_kept : Dn P w K mg base CX0 1 "_law_kept" (sp__law_kept K)) (m_range : mg "range" = none) (m_int : mg "int" = none) (m_max : mg "max" = none) : FnOk P w K mg base CX0 2 f fd ["row", "k"] (sp__law_name K) := by
  refine F.ok sc__law_name (fun vs H Q E h => ?_) (fun cdv A outer s H vs Q E hr h => ?_)
  · obtain ⟨a, row, n, k, rfl, _⟩ := h
    rfl
  · refine ⟨_, (pss_cons (ps_set (i := 2) sc__law_name.nd rfl (Or.inl rfl) pe_str)
      (pss_cons (ps_set (i := 3) sc__law_name.nd rfl (Or.inl rfl) pe_str)
      (pss_cons (ps_set (i := 4) sc__law_name.nd rfl (Or.inl rfl) (pe_op op_mod (pe_callTy call_int1 (by rfl) m_int (by decide +kernel) (pa_cons (pe_ix ix_list (pv 0) pe_int (fun _ _ => rfl)) pa_nil)) pe_int))
      (pss_cons (ps_set (i := 5) sc__law_name.nd rfl (Or.inl rfl) (pe_cmpR op_eq (pe_op op_mod (pe_callTy call_int1 (by rfl) m_int (by decide +kernel) (pa_cons (pe_op op_fdiv (pe_ix ix_list (pv 0) pe_int (fun _ _ => rfl)) pe_int) pa_nil)) pe_int) pe_int (nomark _)))
      (C8.pss_cut (ps_if (pt_not (pt_val (pv 5)))
      (pss_one (ps_set (i := 4) sc__law_name.nd rfl (Or.inl rfl) (pe_callB (call_max2 rfl) (by rfl) m_max (by decide +kernel) (pa_cons pe_int (pa_cons (pe_op op_sub (pv 4) (pv 1)) pa_nil)))))
      pss_nil)
      (pss_cons (ps_for PassesOwn.never rfl (pi_range1 rfl m_range (pa_cons (pv 4) pa_nil)) (pg_name (i := 6) sc__law_name.nd rfl (Or.inl rfl))
      (pss_one (ps_if (pt_cmpR op_eq (pv 6) pe_int (nomark _))
      (pss_one (ps_set (i := 3) sc__law_name.nd rfl (Or.inl rfl) (pe_ix ix_str (pv 2) (pe_op op_mod (pe_callTy call_int1 (by rfl) m_int (by decide +kernel) (pa_cons (pe_ix ix_list (pv 0) pe_int (fun _ _ => rfl)) pa_nil)) pe_int) (fun _ _ => rfl))))
      (pss_one (ps_set (i := 3) sc__law_name.nd rfl (Or.inl rfl) (pe_op op_add_str (pv 3) (pe_ix ix_str (pe_op op_add_str (pv 2) pe_str) (pe_op op_mod (pe_callTy call_int1 (by rfl) m_int (by decide +kernel) (pa_cons (pe_ix ix_list (pv 0) (pe_op op_add pe_int (pv 6)) (fun _ _ => rfl)) pa_nil)) pe_int) (fun _ _ => rfl))))))))
      (pss_cons (ps_set (i := 7) sc__law_name.nd rfl (Or.inl rfl) (pe_op op_mod (pe_callTy call_int1 (by rfl) m_int (by decide +kernel) (pa_cons (pe_ix ix_list (pv 0) pe_int (fun _ _ => rfl)) pa_nil)) (pe_op op_add (pv 4) pe_int)))
      (C8.pss_cut (ps_if (pt_not (pt_val (pv 5)))
      (pss_one (ps_set (i := 7) sc__law_name.nd rfl (Or.inl rfl) pe_int))
      pss_nil)
      (pss_cons (ps_set (i := 3) sc__law_name.nd rfl (Or.inl rfl) (pe_op op_add_str (pe_op op_add_str (pe_slice C8.sl_txt (pv 3) po_none (po_some (pv 7))) (pe_ix ix_str (pv 2) (pe_op op_mod (pe_callTy call_int1 (by rfl) m_int (by decide +kernel) (pa_cons (pe_op op_add (pe_ix ix_list (pv 0) pe_int (fun _ _ => rfl)) (pv 1)) pa_nil)) pe_int) (fun _ _ => rfl))) (pe_slice C8.sl_txt (pv 3) (po_some (pv 7)) po_none)))
      (C8.pss_cut (ps_if (pt_cmpR op_in_seq (pv 3) (pe_d0 D__law_kept hr (by decide) (by rfl) pass0) (by rfl))
      (pss_one (ps_set (i := 3) sc__law_name.nd rfl (Or.inl rfl) (pe_op op_add_str (pv 3) pe_str)))
      pss_nil)
      (pss_one (ps_ret (pv 3))))))))))))), ?_⟩
    obtain ⟨a, row, n, k, rfl, hS, hrow, n15, n1000, k100, Z⟩ := h
    obtain ⟨v0, a0, b0, c0⟩ := hrow.at 0 (by omega)
    obtain ⟨v1, a1, b1, c1⟩ := hrow.at 1 (by omega)
    obtain ⟨v2, a2, b2, c2⟩ := hrow.at 2 (by omega)
    obtain ⟨v3, a3, b3, c3⟩ := hrow.at 3 (by omega)
    refine ⟨_, rfl, _, _, _, _, rfl, rfl, hS, a0, .inl ⟨_, rfl, _, _, rfl, rfl, by show (0 : Int) < 12; decide, ?_⟩⟩
    refine ⟨_, rfl, _, _, _, _, rfl, rfl, hS, a0, _, _, rfl, rfl, ⟨by decide, by decide⟩, .inl ⟨_, rfl, _, _, rfl, rfl, by show (0 : Int) < 2; decide, rfl, ?_⟩⟩
    obtain ⟨al, hal⟩ : ∃ al : Bool, al = decide (V.int (v0 / 12 % 2) = V.int 0) := ⟨_, rfl⟩
    refine ⟨fun σ H1 => H1 = H ∧ ∃ sz : Nat, sz < 12 ∧ σ = [some (.ref a), some (.int (k : Int)), some (.str (Str.ofString "abcdefghijklmnopqrstuvwxyz")), some (.str (SX.S [])), some (.int (sz : Int)), some (.bl al), none, none], ?_, ?_⟩
    · refine ⟨_, rfl, _, rfl, ?_⟩
      show (if (!decide (V.int (v0 / 12 % 2) = V.int 0)) = true then _ else _)
      refine ite2 (fun e => ?_) (fun e => ?_)
      · obtain ⟨sz, es, h12⟩ : ∃ sz : Nat, (sz : Int) = (if v0 % 12 - (k : Int) > 0 then v0 % 12 - (k : Int) else 0) ∧ sz < 12 := by
          split
          · exact ⟨(v0 % 12 - (k : Int)).toNat, by omega, by omega⟩
          · exact ⟨0, by omega, by omega⟩
        refine ⟨_, rfl, _, rfl, _, _, rfl, rfl, _, _, rfl, rfl, sz, h12, ?_⟩
        rw [hal, es]
        rfl
      · refine ⟨rfl, (v0 % 12).toNat, by omega, ?_⟩
        rw [hal, show (((v0 % 12).toNat : Nat) : Int) = v0 % 12 by omega]
        rfl
    rintro σ H1 ⟨rfl, sz, hsz, rfl⟩
    refine ⟨_, rfl, _, rfl, by omega, by omega, ?_⟩
    refine for_range (lo := 0) (n := sz) (fun i σ H2 => H2 = H1 ∧ ∃ (l : List Nat) (y6 : Option V), isT i l ∧ σ = [some (.ref a), some (.int (k : Int)), some (.str (Str.ofString "abcdefghijklmnopqrstuvwxyz")), some (.str (SX.S l)), some (.int (sz : Int)), some (.bl al), y6, none]) ⟨rfl, [], _, isT.nil, rfl⟩ ?_ ?_
    · rintro i σ H2 hi ⟨rfl, l, y6, hl, rfl⟩
      rw [Int.zero_add]
      refine ⟨_, rfl, rfl, _, rfl, ite2 (fun e => ?_) (fun e => ?_)⟩
      · obtain ⟨c, hc, hc2⟩ := at_sign (T := Str.ofString "abcdefghijklmnopqrstuvwxyz") (m := 26) (by decide +kernel) (i := v3 % 26) (by omega) (by omega)
        have i0 : i = 0 := by have := V.int.inj (of_decide_eq_true e); omega
        refine ⟨_, rfl, _, rfl, _, _, _, _, rfl, rfl, hS, a3, .inl ⟨_, rfl, _, _, rfl, rfl, by show (0 : Int) < 26; decide, ?_⟩⟩
        refine ⟨_, _, c, rfl, rfl, by decide +kernel, hc, rfl, [c], _, (isT.one hc2).mono (by omega), rfl⟩
      · obtain ⟨v, av, bv, cv⟩ := hrow.at (3 + i) (by omega)
        obtain ⟨c, hc, hc2⟩ := at_sign (T := Str.ofString "abcdefghijklmnopqrstuvwxyz" ++ Str.ofString "0123456789") (m := 36) (by decide +kernel) (i := v % 36) (by omega) (by omega)
        refine ⟨_, rfl, _, rfl, _, _, rfl, rfl, by decide +kernel, ?_⟩
        refine ⟨_, rfl, _, rfl, _, _, rfl, rfl, _, _, _, _, rfl, rfl, hS, av, .inl ⟨_, rfl, _, _, rfl, rfl, by show (0 : Int) < 36; decide, ?_⟩⟩
        refine ⟨_, _, c, rfl, rfl, by decide +kernel, hc, _, _, rfl, rfl, isT.two hl (isT.one hc2) (by omega), rfl, l ++ [c], some (.int (i : Int)), hl.app (isT.one hc2), ?_⟩
        rw [show (SX.S l ++ (⟨#[c]⟩ : Str)) = SX.S (l ++ [c]) from SX.S_cat l [c]]
        rfl
    rintro σ H2 ⟨rfl, l, y6, hl, rfl⟩
    refine ⟨_, rfl, _, _, _, _, rfl, rfl, hS, a1, .inl ⟨_, rfl, _, rfl, _, _, rfl, rfl, _, _, rfl, rfl, by omega, ?_⟩⟩
    refine ⟨fun σ H1 => H1 = H2 ∧ ∃ at' : Nat, σ = [some (.ref a), some (.int (k : Int)), some (.str (Str.ofString "abcdefghijklmnopqrstuvwxyz")), some (.str (SX.S l)), some (.int (sz : Int)), some (.bl al), y6, some (.int (at' : Int))], ?_, ?_⟩
    · refine ⟨_, rfl, _, rfl, ?_⟩
      cases al with
      | true =>
        refine ⟨rfl, (v1 % ((sz : Int) + 1)).toNat, ?_⟩
        have := Int.emod_nonneg v1 (show (sz : Int) + 1 ≠ 0 by omega)
        rw [show (((v1 % ((sz : Int) + 1)).toNat : Nat) : Int) = v1 % ((sz : Int) + 1) by omega]
        rfl
      | false => exact ⟨rfl, 0, rfl⟩
    rintro σ H1 ⟨rfl, at', rfl⟩
    obtain ⟨c, hc, hc2⟩ := at_sign (T := Str.ofString "abcdefghijklmnopqrstuvwxyz") (m := 26) (by decide +kernel) (i := (v2 + (k : Int)) % 26) (by omega) (by omega)
    have lz := hl.line (k := by omega)
    refine ⟨_, rfl, _, rfl, _, rfl, _, rfl, lz, ?_⟩
    rw [SX.slice_to (Int.natCast_nonneg at'), Int.toNat_natCast]
    refine ⟨_, rfl, _, rfl, _, _, _, _, rfl, rfl, hS, a2, _, rfl, _, _, rfl, rfl, .inl ⟨_, rfl, _, _, rfl, rfl, by show (0 : Int) < 26; decide, _, _, c, rfl, rfl, by decide +kernel, hc, ?_⟩⟩
    have t1 := hl.take at'
    have t2 := hl.drop at'
    have tc := isT.one hc2
    refine ⟨_, _, rfl, rfl, isT.two t1 tc (by omega), ?_⟩
    rw [show (SX.S (l.take at') ++ (⟨#[c]⟩ : Str)) = SX.S (l.take at' ++ [c]) from SX.S_cat _ [c]]
    refine ⟨_, rfl, _, rfl, _, rfl, _, rfl, lz, ?_⟩
    rw [SX.slice_from (Int.natCast_nonneg at'), Int.toNat_natCast]
    have t12 := t1.app tc
    refine ⟨_, _, rfl, rfl, isT.two t12 t2 (by omega), ?_⟩
    rw [SX.S_cat]
    have t13 : isT 12 (l.take at' ++ [c] ++ l.drop at') := ⟨(t12.app t2).1, by
      have e := congrArg List.length (List.take_append_drop at' l)
      rw [List.length_append] at e
      have := hl.2
      rw [List.length_append, List.length_append, List.length_singleton]
      omega⟩
    generalize l.take at' ++ [c] ++ l.drop at' = l2 at t13
    refine ⟨fun σ H2 => Same H1 H2 ∧ ∃ (l : List Nat), isT 13 l ∧ σ = [some (.ref a), some (.int (k : Int)), some (.str (Str.ofString "abcdefghijklmnopqrstuvwxyz")), some (.str (SX.S l)), some (.int (sz : Int)), some (.bl al), y6, some (.int (at' : Int))], ?_, ?_⟩
    · refine ⟨_, rfl, rfl, fun H2 p s2 np hp => ?_⟩
      refine ⟨p, _, rfl, .inl (SqL.of hp), rfl, rfl, _, rfl, ite2 (fun e => ?_) (fun e => ?_)⟩
      · refine ⟨_, rfl, _, _, rfl, rfl, isT.two t13 (isT.one (show 120 < 128 by decide)) (by decide), s2, l2 ++ [120], t13.app (isT.one (by decide)), ?_⟩
        rw [← SX.S_cat]
        rfl
      · exact ⟨s2, l2, t13.mono (by decide), rfl⟩
    rintro σ H2 ⟨s2, l3, hl3, rfl⟩
    exact ⟨_, rfl, Z l3 hl3 H2 s2⟩
theorem ok__law_market {f : Addr} {fd : FuncData} (F : Fun K "_law_market" "_law_market" s__law_market f fd) (D__law_row : Dn P w K mg base CX0 1 "_law_row" (sp__law_row K)) (D__law_name : Dn P w K mg base CX0 2 "_law_name" (sp__law_name K)) (m_range : mg "range" = none) (m_int : mg "int" = none) : FnOk P w K mg base CX0 3 f fd ["script", "place"] (sp__law_market K) := by
  refine F.ok sc__law_market (fun vs H Q E h => ?_) (fun cdv A outer s H vs Q E hr h => ?_)
  · obtain ⟨a, ns, pl, rfl, _⟩ := h
    rfl
  · refine ⟨_, (pss_cons (ps_set (i := 2) sc__law_market.nd rfl (Or.inl rfl) (pe_d D__law_row hr (by decide) (by rfl) pass0 (pa_cons (pv 0) (pa_cons (pv 1) (pa_cons pe_int pa_nil)))))
      (pss_cons (ps_set (i := 3) sc__law_market.nd rfl (Or.inr rfl) (pe_d D__law_row hr (by decide) (by rfl) pass0 (pa_cons (pv 0) (pa_cons (pe_op op_add (pv 1) pe_int) (pa_cons pe_int pa_nil)))))
      (pss_cons (ps_set (i := 4) sc__law_market.nd rfl (Or.inl rfl) (pe_d D__law_row hr (by decide) (by rfl) pass0 (pa_cons (pv 0) (pa_cons (pe_op op_add (pv 1) pe_int) (pa_cons pe_int pa_nil)))))
      (C8.pss_cut (ps_if (pt_cmpR op_eq (pe_op op_mod (pe_callTy call_int1 (by rfl) m_int (by decide +kernel) (pa_cons (pe_ix ix_list (pv 2) pe_int (fun _ _ => rfl)) pa_nil)) pe_int) pe_int (nomark _))
      (pss_one (ps_set (i := 4) sc__law_market.nd rfl (Or.inl rfl) (pv 3)))
      pss_nil)
      (pss_cons (ps_setLc (i := 5) (own := [("k", 7)]) (g := gName 7) (tt := tYes) rfl sc__law_market.nd rfl rfl (sw_true rfl rfl rfl (by decide +kernel)) (pi_range1 rfl m_range (pa_cons (pe_op op_add pe_int (pe_op op_mod (pe_callTy call_int1 (by rfl) m_int (by decide +kernel) (pa_cons (pe_ix ix_list (pv 2) pe_int (fun _ _ => rfl)) pa_nil)) pe_int)) pa_nil)) (blkOk_by (N := N__law_market) (sc := defScope s__law_market) (by decide +kernel)) (fun _ _ _ _ _ => (pg_name (i := 7) sc__law_market.nd rfl (Or.inl rfl))) (fun _ _ _ _ _ => pts_nil) (fun _ _ _ _ _ => (pe_d D__law_name hr (by decide) (by rfl) pass0 (pa_cons (pv 3) (pa_cons (pv 7) pa_nil)))))
      (pss_cons (ps_set (i := 6) sc__law_market.nd rfl (Or.inl rfl) (pe_lst pa_nil))
      (pss_cons (ps_for PassesOwn.never rfl (pi_range1 rfl m_range (pa_cons (pe_op op_add pe_int (pe_op op_mod (pe_callTy call_int1 (by rfl) m_int (by decide +kernel) (pa_cons (pe_ix ix_list (pv 2) pe_int (fun _ _ => rfl)) pa_nil)) pe_int)) pa_nil)) (pg_name (i := 7) sc__law_market.nd rfl (Or.inl rfl))
      (pss_cons (ps_set (i := 8) sc__law_market.nd rfl (Or.inl rfl) (pe_d D__law_name hr (by decide) (by rfl) pass0 (pa_cons (pv 4) (pa_cons (pv 7) pa_nil))))
      (pss_cons (ps_set (i := 9) sc__law_market.nd rfl (Or.inl rfl) (pe_op op_mod (pe_callTy call_int1 (by rfl) m_int (by decide +kernel) (pa_cons (pe_ix ix_list (pv 2) (pe_op op_add pe_int (pv 7)) (fun _ _ => rfl)) pa_nil)) (pe_op op_add (pv 7) pe_int)))
      (C8.pss_cut (ps_if (pt_cmpR op_lt (pv 9) (pv 7) (nomark _))
      (pss_one (ps_set (i := 8) sc__law_market.nd rfl (Or.inl rfl) (pe_ix ix_tup (pe_ix ix_list (pv 6) (pv 9) (fun _ _ => rfl)) pe_int (fun _ _ => rfl))))
      pss_nil)
      (pss_one (ps_expr (pe_bm PySem.F.plainAttrs_list PySem.F.slot_list_append PySem.F.type_list_append mt_append (pv 6) (pa_cons (pe_tup (pa_cons (pe_d D__law_name hr (by decide) (by rfl) pass0 (pa_cons (pv 4) (pa_cons (pv 7) pa_nil))) (pa_cons (pv 8) pa_nil))) pa_nil))))))))
      (pss_one (ps_ret (pe_tup (pa_cons (pv 5) (pa_cons (pv 6) pa_nil)))))))))))), ?_⟩
    obtain ⟨a, ns, pl, rfl, hS, Z⟩ := h
    refine ⟨_, rfl, _, rfl, _, _, pl, 8, rfl, hS, by decide, fun H1 o0 shape s1 _ hsh e0 => ?_⟩
    refine ⟨_, rfl, _, rfl, _, _, rfl, rfl, _, _, pl + 1, 15, rfl, s1.seq hS, by decide, fun H2 o1 first s2 _ hf e1 => ?_⟩
    refine ⟨_, rfl, _, rfl, _, _, rfl, rfl, _, _, pl + 2, 15, rfl, (s1.trans s2).seq hS, by decide, fun H3 o2 second s3 _ hse e2 => ?_⟩
    obtain ⟨v0, a0, b0, c0⟩ := hsh.at 0 (by decide)
    obtain ⟨v1, a1, b1, c1⟩ := hsh.at 1 (by decide)
    obtain ⟨v2, a2, b2, c2⟩ := hsh.at 2 (by decide)
    have e0' := (s2.trans s3) _ _ e0
    have e1' := s3 _ _ e1
    refine ⟨fun σ H4 => H4 = H3 ∧ ∃ (o : Addr) (sec : List Int), σ = [some (.ref a), some (.int (pl : Int)), some (.ref o0), some (.ref o1), some (.ref o), none, none, none, none, none] ∧ H3 o = some (.lst (sec.map V.int)) ∧ isRow sec 15, ?_, ?_⟩
    · refine ⟨_, rfl, _, _, _, _, rfl, rfl, SqL.of e0', a0, .inl ⟨_, rfl, _, _, rfl, rfl, by show (0 : Int) < 3; decide, rfl, _, rfl, ite2 (fun e => ?_) (fun e => ?_)⟩⟩
      · exact ⟨_, rfl, rfl, o1, first, rfl, e1', hf⟩
      · exact ⟨rfl, o2, second, rfl, e2, hse⟩
    rintro σ H4 ⟨rfl, o, sec, rfl, hsec, hrow⟩
    refine ⟨_, rfl, _, _, _, _, rfl, rfl, SqL.of e0', a1, .inl ⟨_, rfl, _, _, rfl, rfl, by show (0 : Int) < 4; decide, _, _, rfl, rfl, _, rfl, by omega, by omega, fun D nD => ?_⟩⟩
    refine lc_range (lo := 0) (n := (1 + v1 % 4).toNat) (fun i H5 => Same H4 H5 ∧ ∃ gs : List Nm, gs.length = i ∧ (∀ l ∈ gs, isT 13 l) ∧ H5 D = some (.lst (sV gs))) ⟨same_upd nD, [], rfl, (fun l hl => nomatch hl), upd_same⟩ ?_ ?_
    · rintro i H5 hi ⟨s5, gs, lg, tg, hD⟩
      refine ⟨rfl, _, rfl, _, rfl, o1, first, 15, i, ?_, SqL.of (s5 _ _ e1'), hf, by decide, by decide, by omega, fun l hl H6 s6 => ?_⟩
      · show [V.ref o1, V.int (0 + (i : Int))] = _
        rw [Int.zero_add]
      refine ⟨_, s6 _ _ hD, by rw [List.length_map]; exact small1000 (by omega), same_mut (s5.trans s6) nD, gs ++ [l], by rw [List.length_append, lg]; rfl, fun x hx => ?_, by rw [upd_same, sV_snoc]⟩
      rcases List.mem_append.mp hx with hx | hx
      · exact tg x hx
      · rw [List.mem_singleton.mp hx]; exact hl
    rintro H5 ⟨s5, gs, lg, tg, hD⟩
    refine ⟨Nat.zero_le _, fun q nq => ?_⟩
    have nq4 := s5.free nq
    have dG : Dp K (fresh H4 H5) (.ref D) (namesD gs) := .lst (SqL.of (by rw [fresh_at nD]; exact hD)) (sV_dp gs)
    refine ⟨_, rfl, _, _, _, _, rfl, rfl, SqL.of ((s5.trans (same_upd (o := .lst []) nq)) _ _ e0'), a2, .inl ⟨_, rfl, _, _, rfl, rfl, by show (0 : Int) < 4; decide, _, _, rfl, rfl, _, rfl, by omega, by omega, ?_⟩⟩
    refine for_range (lo := 0) (n := (1 + v2 % 4).toNat) (fun i σ H6 => Same H5 H6 ∧ ∃ (ps : List Psn) (y7 y8 y9 : Option V), σ = [some (.ref a), some (.int (pl : Int)), some (.ref o0), some (.ref o1), some (.ref o), some (.ref D), some (.ref q), y7, y8, y9] ∧ ps.length = i ∧ (∀ p ∈ ps, isT 13 p.1 ∧ isT 13 p.2) ∧ Gr K H5 H6 [q] q (ps.map psD)) ⟨same_upd nq, [], _, _, _, rfl, rfl, (fun p hp => nomatch hp), Gr.start (Same.refl _) nq (by simp)⟩ ?_ ?_
    · rintro i σ H6 hi ⟨s6, ps, y7, y8, y9, rfl, lp, tp, gD⟩
      rw [Int.zero_add]
      have s46 := s5.trans s6
      refine ⟨_, rfl, _, rfl, o, sec, 15, i, rfl, SqL.of (s46 _ _ hsec), hrow, by decide, by decide, by omega, fun l1 hl1 H7 s7 => ?_⟩
      obtain ⟨v, av, bv, cv⟩ := hsh.at (3 + i) (by omega)
      have s47 := s46.trans s7
      refine ⟨_, rfl, _, rfl, _, _, rfl, rfl, _, _, _, _, rfl, rfl, SqL.of (s47 _ _ e0'), av, .inl ⟨_, rfl, _, rfl, _, _, rfl, rfl, _, _, rfl, rfl, by omega, ?_⟩⟩
      have gD7 := gD.same s7
      obtain ⟨es, sq7, hes⟩ := gD7.seq
      refine ⟨fun σ H8 => H8 = H7 ∧ ∃ (h : Nm) (y9 : Option V), isT 13 h ∧ σ = [some (.ref a), some (.int (pl : Int)), some (.ref o0), some (.ref o1), some (.ref o), some (.ref D), some (.ref q), some (.int (i : Int)), some (.str (SX.S h)), y9], ?_, ?_⟩
      · refine ⟨_, rfl, _, rfl, _, _, rfl, rfl, _, rfl, ite2 (fun e => ?_) (fun e => ?_)⟩
        · obtain ⟨m, em⟩ := Int.eq_ofNat_of_zero_le (show 0 ≤ v % ((i : Int) + 2) from Int.emod_nonneg v (by omega))
          have hm : m < ps.length := by have := of_decide_eq_true e; omega
          have ep : ps[m]? = some ps[m] := List.getElem?_eq_getElem hm
          obtain ⟨x, ex, hxd⟩ := dpa_get (i := m) hes (by rw [List.getElem?_map, ep]; rfl)
          obtain ⟨t, zs, rfl, ht, hz⟩ := dp_tup hxd
          obtain ⟨z1, z2, rfl, g1, g2⟩ := dpa_two hz
          cases dp_str g1
          cases dp_str g2
          refine ⟨_, rfl, _, rfl, _, _, _, _, rfl, rfl, sq7, by rw [em]; exact atI_nat ex, _, _, _, _, rfl, rfl, ht, rfl, ?_⟩
          exact ⟨rfl, ps[m].2, _, (tp _ (List.getElem_mem hm)).2, rfl⟩
        · exact ⟨rfl, l1, _, hl1, rfl⟩
      rintro σ H8 ⟨rfl, hd, y9, thd, rfl⟩
      obtain ⟨_, _, acc0, eq7, _⟩ := id gD7
      refine ⟨_, rfl, .inl ⟨rfl, _, SqL.of eq7⟩, ?_⟩
      refine ⟨_, rfl, _, rfl, o, sec, 15, i, rfl, SqL.of (s47 _ _ hsec), hrow, by decide, by decide, by omega, fun l2 hl2 H9 s9 => ?_⟩
      refine ⟨_, rfl, by show 2 ≤ sizeLine; decide, fun t nt => ?_⟩
      have sT := same_upd (o := .tup [.str (SX.S l2), .str (SX.S hd)]) nt
      obtain ⟨acc, x1, x2, g2⟩ := ((gD7.same s9).same sT).push (grow_tup (ds := [.str (SX.S l2), .str (SX.S hd)]) (s6.trans (s7.trans s9)) (fun b hb => by rw [List.mem_singleton.mp hb]; exact (gD7.same s9).hard) nt (.cons (.str _) (.cons (.str _) .nil))) (by rw [List.length_map]; omega)
      refine ⟨_, _, _, rfl, rfl, x1, x2, same_mut (((s6.trans s7).trans s9).trans sT) nq, ps ++ [(l2, hd)], _, _, _, rfl, by rw [List.length_append, lp]; rfl, fun x hx => ?_, by rw [List.map_append]; exact g2⟩
      rcases List.mem_append.mp hx with hx | hx
      · exact tp x hx
      · rw [List.mem_singleton.mp hx]; exact ⟨hl2, thd⟩
    rintro σ H6 ⟨s6, ps, y7, y8, y9, rfl, lp, tp, gD⟩
    refine ⟨_, rfl, _, rfl, by show 2 ≤ sizeLine; decide, fun t nt => ?_⟩
    have s03 := s1.trans (s2.trans s3)
    have sT := same_upd (o := .tup [.ref D, .ref q]) nt
    obtain ⟨_, _, es, hes, hdp⟩ := gD
    exact Z gs ps ⟨by omega, by omega, by omega, by omega, tg, tp⟩ _ t D q es ((s03.trans (s5.trans s6)).trans sT) ((s03.trans (s5.trans s6)).free nt) (s03.free nD) (s03.free nq4) (SqT.of upd_same) ((s6.trans sT) _ _ hD) (sT _ _ hes) (dpa_same (but_sub.trans ((fresh_old (s03.trans s5)).trans (fresh_mono sT))) hdp)
theorem ok_head_of {f : Addr} {fd : FuncData} {C_UnknownName : Addr} (F : Fun K "head_of" "head_of" s_head_of f fd) (E_UnknownName : ErrD K mg "UnknownName" C_UnknownName) (c_UnknownName : mg "UnknownName" = some (.ref C_UnknownName)) : FnOk P w K mg base (L2.CX P w) 1 f fd ["market", "person"] (sp_head_of K C_UnknownName) := by
  refine F.okX sc_head_of (fun vs H Q E h => ?_) (fun cdv A outer s H vs Q E hr h => ?_)
  · obtain ⟨a, x, gs, ps, rfl, _⟩ := h
    rfl
  · refine ⟨_, (pss_cons (ps_for (passes_of rfl) rfl (pi_list (pe_fld (pv 0) rfl)) (pg_tup rfl (pgs_cons (pg_name (i := 2) sc_head_of.nd rfl (Or.inl rfl)) (pgs_cons (pg_name (i := 3) sc_head_of.nd rfl (Or.inl rfl)) pgs_nil)))
      (pss_one (ps_if (pt_cmpR op_eq (pv 2) (pv 1) (nomark _))
      (pss_one (ps_ret (pv 3)))
      pss_nil)))
      (pss_one (ps_raise rfl (takes_of rfl rfl rfl rfl) (pmk_err E_UnknownName (by rfl) (pa_cons (pe_joined (.cons pe_str (.cons (pe_fmt (pv 1)) .nil))) pa_nil))))), ?_⟩
    obtain ⟨a, x, gs, ps, rfl, ⟨v, w, hfg, hG, ⟨C, dx, fs, h1, cl, na, lk⟩, hP⟩, lx, hQ, hE⟩ := h
    obtain ⟨b, ys, rfl, sB, hy⟩ := dp_lst hP
    refine ⟨_, rfl, a, C, dx, fs, _, rfl, h1, cl, na, lk, b, rfl, ⟨_, sB⟩, ?_⟩
    refine for_list (K := K) (a := b) (xs := ys) (fun k σ H2 => H2 = H ∧ (∃ y2 y3 : Option V, σ = [some (.ref a), some (.str x), y2, y3]) ∧ ∀ p ∈ ps.take k, ¬ SX.S p.1 = x) ⟨rfl, ⟨_, _, rfl⟩, fun p hp => by rw [List.take_zero] at hp; cases hp⟩ (fun k σ H2 _ h => h.1 ▸ sB) ?_ ?_
    · rintro k y σ H2 hk ⟨rfl, ⟨y2, y3, rfl⟩, hno⟩
      obtain ⟨d, hd, hdx⟩ := dpa_got hy hk
      rw [List.getElem?_map] at hd
      cases ep : ps[k]? with
      | none => rw [ep] at hd; cases hd
      | some p =>
      rw [ep] at hd
      cases Option.some.inj hd
      obtain ⟨t, zs, rfl, ht, hz⟩ := dp_tup hdx
      obtain ⟨z1, z2, rfl, g1, g2⟩ := dpa_two hz
      cases dp_str g1
      cases dp_str g2
      refine ⟨t, _, rfl, ht, rfl, _, _, rfl, _, _, rfl, rfl, ?_⟩
      refine ⟨_, rfl, _, rfl, rfl, _, rfl, ite2 (fun e => ?_) (fun e => ?_)⟩
      · have e1 : SX.S p.1 = x := by have := of_decide_eq_true e; injection this
        refine ⟨_, rfl, hQ p.2 ?_⟩
        unfold headR
        rw [find_first ep hno e1]
        rfl
      · have e1 : ¬ SX.S p.1 = x := fun z => e (decide_eq_true (by rw [z]))
        refine ⟨rfl, ⟨_, _, rfl⟩, fun q hq => ?_⟩
        rw [List.take_add_one, ep] at hq
        rcases List.mem_append.mp hq with hq | hq
        · exact hno q hq
        · rw [List.mem_singleton.mp hq]; exact e1
    rintro σ H2 ⟨rfl, ⟨y2, y3, rfl⟩, hno⟩
    rw [dpa_len hy, List.length_map, List.take_of_length_le (Nat.le_refl _)] at hno
    refine ⟨_, rfl, by decide +kernel, _, rfl, .inl ⟨x, rfl, sz_line lx, _, rfl, ?_, (show 1 ≤ sizeLine by decide), hE (find_none hno)⟩⟩
    rw [TL.len_tl, TL.tl_append, List.length_append, ← TL.len_tl x]
    have h2 : (TL.tl (Str.empty ++ Str.ofString "there is no person ")).length = 19 := by decide +kernel
    rw [h2]
    have : 1019 ≤ sizeLine := by decide
    omega
theorem ok__law_told {f : Addr} {fd : FuncData} {C_BadText C_BookError C_NotAllowed C_UnknownName : Addr} (F : Fun K "_law_told" "_law_told" s__law_told f fd) (D_head_of : Dn P w K mg base (L2.CX P w) 1 "head_of" (sp_head_of K C_UnknownName)) (m_isinstance : mg "isinstance" = none) (m_ValueError : mg "ValueError" = none) (E_UnknownName : ErrD K mg "UnknownName" C_UnknownName) (c_UnknownName : mg "UnknownName" = some (.ref C_UnknownName)) (c_BadText : mg "BadText" = some (.ref C_BadText)) (c_NotAllowed : mg "NotAllowed" = some (.ref C_NotAllowed)) (c_BookError : mg "BookError" = some (.ref C_BookError)) (k_UB : PySem.W.kitOne K (.ref C_UnknownName) (.ref C_BadText) = some false) (k_UN : PySem.W.kitOne K (.ref C_UnknownName) (.ref C_NotAllowed) = some false) (k_UK : PySem.W.kitOne K (.ref C_UnknownName) (.ref C_BookError) = some true) (k_UV : PySem.W.kitOne K (.ref C_UnknownName) (.type "ValueError") = some true) : FnOk P w K mg base CX0 2 f fd ["market", "person"] (sp__law_told K) := by
  refine F.ok sc__law_told (fun vs H Q E h => ?_) (fun cdv A outer s H vs Q E hr h => ?_)
  · obtain ⟨a, x, gs, ps, rfl, _⟩ := h
    rfl
  · refine ⟨_, (pss_one (ps_try_as (i := 2) rfl rfl sc__law_told.nd rfl rfl ⟨rfl, by decide, .inl c_UnknownName⟩ takes0 (fun W pn xe tk _ => (pss_one (ps_ret (pe_tup (pa_cons pe_bl (pa_cons (pe_dS D_head_of hr (by decide) (by rfl) (fun σ => passAt tk σ) (pa_cons (pv 0) (pa_cons (pv 1) pa_nil))) pa_nil)))))) (fun a oe cls d pn hz hf => (pss_cons (ps_if (PW.pt (pw_or (pt_val (pe_callB (call_isN E_UnknownName.e hz hf) (by rfl) m_isinstance (by decide +kernel) (pa_cons (pv 2) (pa_cons (pe_glob (v := .ref C_BadText) rfl c_BadText rfl) pa_nil)))) (pw_or1 (pt_val (pe_callB (call_isN E_UnknownName.e hz hf) (by rfl) m_isinstance (by decide +kernel) (pa_cons (pv 2) (pa_cons (pe_glob (v := .ref C_NotAllowed) rfl c_NotAllowed rfl) pa_nil)))))))
      (pss_one (ps_ret (pe_tup (pa_cons pe_bl (pa_cons pe_str pa_nil)))))
      pss_nil)
      (pss_one (ps_ret (pe_tup (pa_cons pe_bl (pa_cons (pe_and (pe_callB (call_isN E_UnknownName.e hz hf) (by rfl) m_isinstance (by decide +kernel) (pa_cons (pv 2) (pa_cons (pe_glob (v := .ref C_BookError) rfl c_BookError rfl) pa_nil))) (pe_one (pe_callB (call_isN E_UnknownName.e hz hf) (by rfl) m_isinstance (by decide +kernel) (pa_cons (pv 2) (pa_cons (pe_bltn (v := .ty "ValueError") (by rfl) m_ValueError (by decide +kernel) rfl) pa_nil))))) pa_nil))))))))), ?_⟩
    obtain ⟨a, x, gs, ps, rfl, hM, lx, hQ, hE⟩ := h
    refine ⟨_, rfl, _, rfl, a, x, gs, ps, rfl, hM, lx, fun hd hh => ?_, fun hn => ?_⟩
    · exact ⟨(show 2 ≤ sizeLine by decide), fun p np => hQ hd hh _ p (same_upd np) np (SqT.of upd_same)⟩
    · refine ⟨true, E_UnknownName.te, fun _ e na => ?_, fun q => Bool.noConfusion q⟩
      refine ⟨_, rfl, rfl, rfl, _, _, _, rfl, (fun u r => r), k_UB, _, rfl, ?_⟩
      refine ⟨_, rfl, rfl, rfl, _, _, _, rfl, (fun u r => r), k_UN, _, rfl, ?_⟩
      refine iteF ?_
      refine ⟨_, rfl, rfl, rfl, _, _, _, rfl, (fun u r => r), k_UK, true, rfl, ?_⟩
      refine ⟨_, rfl, rfl, rfl, _, _, _, rfl, (fun u r => r), k_UV, (show 2 ≤ sizeLine by decide), fun p np => ?_⟩
      exact hE hn _ p (same_upd np) np (SqT.of upd_same)
theorem ok_Market_init {f : Addr} {fd : FuncData} {C_Market : Addr} (F : Fun K "__init__" "Market.__init__" s_Market_init f fd) (m_list : mg "list" = none) (T_Market : Cls K C_Market) (na_Market_goods : NoAttr K C_Market "goods") (na_Market_people : NoAttr K C_Market "people") : FnOk P w K mg base CX0 1 f fd ["self", "goods", "people"] (sp_Market_init K C_Market) := by
  refine F.ok sc_Market_init (fun vs H Q E h => ?_) (fun cdv A outer s H vs Q E hr h => ?_)
  · obtain ⟨H₀, p, dx, gs, ps, vg, vp, rfl, _⟩ := h
    rfl
  · refine ⟨_, (pss_cons (ps_fld (pv 0) (pe_callTy call_list_of (by rfl) m_list (by decide +kernel) (pa_cons (pv 1) pa_nil)) rfl)
      (pss_one (ps_fld (pv 0) (pe_callTy call_list_of (by rfl) m_list (by decide +kernel) (pa_cons (pv 2) pa_nil)) rfl))), ?_⟩
    obtain ⟨H₀, p, dx, gs, ps, vg, vp, rfl, s0, np, hp, hG, hP, lg, lp, Z⟩ := h
    obtain ⟨a, xs, rfl, sA, hx⟩ := dp_lst hG
    obtain ⟨b, ys, rfl, sB, hy⟩ := dp_lst hP
    obtain rfl : xs = sV gs := sV_of hx
    refine ⟨_, rfl, a, _, rfl, .inl (s0.seq sA), fun l1 n1 => ?_⟩
    have t1 : Same H (upd H l1 (.lst (sV gs))) := same_upd n1
    refine ⟨_, rfl, p, C_Market, dx, [], rfl, t1 _ _ hp, T_Market, na_Market_goods, (by show 0 < 1000; decide), ?_⟩
    have l1p : l1 ≠ p := fun z => by rw [z, hp] at n1; cases n1
    have s1 : Same H₀ (upd (upd H l1 (.lst (sV gs))) p (.ins C_Market dx (putF "goods" (.ref l1) []))) := same_mut (s0.trans t1) np
    have hp1 : upd (upd H l1 (.lst (sV gs))) p (.ins C_Market dx (putF "goods" (.ref l1) [])) p = some (.ins C_Market dx (putF "goods" (.ref l1) [])) := upd_same
    have hl1 : upd (upd H l1 (.lst (sV gs))) p (.ins C_Market dx (putF "goods" (.ref l1) [])) l1 = some (.lst (sV gs)) := by
      rw [upd_ne l1p]
      exact upd_same
    generalize upd (upd H l1 (.lst (sV gs))) p (.ins C_Market dx (putF "goods" (.ref l1) [])) = H1 at s1 hp1 hl1 ⊢
    refine ⟨_, rfl, b, _, rfl, .inl (s1.seq sB), fun l2 n2 => ?_⟩
    have t2 : Same H1 (upd H1 l2 (.lst ys)) := same_upd n2
    have l2p : l2 ≠ p := fun z => by rw [z, hp1] at n2; cases n2
    refine ⟨_, rfl, p, C_Market, dx, _, rfl, t2 _ _ hp1, T_Market, na_Market_people, ?_, ?_⟩
    · exact Nat.lt_of_le_of_lt (putF_len _) (show 1 < 1000 by decide)
    have lk : ∀ n : Str, (putF "people" (V.ref l2) (putF "goods" (V.ref l1) [])).lookup n = if n = "people" then some (V.ref l2) else if n = "goods" then some (V.ref l1) else none := fun n => by
      rw [lookup_putF, lookup_putF]
      rfl
    have s2 : Same H₀ (upd (upd H1 l2 (.lst ys)) p (.ins C_Market dx (putF "people" (V.ref l2) (putF "goods" (V.ref l1) [])))) := same_mut (s1.trans t2) np
    refine Z _ _ s2 upd_same ⟨.ref l1, .ref l2, ⟨_, _, _, upd_same, T_Market, na_Market_goods, ?_⟩, ?_, ⟨_, _, _, upd_same, T_Market, na_Market_people, ?_⟩, ?_⟩
    · rw [lk, if_neg (by decide +kernel), if_pos rfl]
    · refine .lst (xs := sV gs) (SqL.of ?_) (sV_dp gs)
      rw [fresh_at (s0.free n1), upd_ne l1p]
      exact t2 _ _ hl1
    · rw [lk, if_pos rfl]
    · refine .lst (xs := ys) (SqL.of ?_) ?_
      · rw [fresh_at (s1.free n2), upd_ne l2p]
        exact upd_same
      · exact dpa_same but_sub (grow_ps (Ds := []) s2 (fun D hD => nomatch hD) (dpa_same s2 hy))
theorem ok_law {f : Addr} {fd : FuncData} {C_Market : Addr} (F : Fun K "law" "law" s_law f fd) (D__law_market : Dn P w K mg base CX0 3 "_law_market" (sp__law_market K)) (D__law_row : Dn P w K mg base CX0 1 "_law_row" (sp__law_row K)) (D__law_told : Dn P w K mg base CX0 2 "_law_told" (sp__law_told K)) (D__law_name : Dn P w K mg base CX0 2 "_law_name" (sp__law_name K)) (D__law_kept : Dn P w K mg base CX0 1 "_law_kept" (sp__law_kept K)) (m_list : mg "list" = none) (m_int : mg "int" = none) (m_len : mg "len" = none) (m_isinstance : mg "isinstance" = none) (m_str : mg "str" = none) (M_Market : DMk P w K mg base CX0 1 "Market" C_Market (sp_Market_init K C_Market)) (c_Market : mg "Market" = some (.ref C_Market)) : FnOk P w K mg base CX0 4 f fd ["script"] (sp_law K) := by
  refine F.ok sc_law (fun vs H Q E h => ?_) (fun cdv A outer s H vs Q E hr h => ?_)
  · obtain ⟨a, ns, rfl, _⟩ := h
    rfl
  · refine ⟨_, (pss_cons (ps_asg (pe_d D__law_market hr (by decide) (by rfl) pass0 (pa_cons (pv 0) (pa_cons pe_int pa_nil))) (pg_tup rfl (pgs_cons (pg_name (i := 1) sc_law.nd rfl (Or.inl rfl)) (pgs_cons (pg_name (i := 2) sc_law.nd rfl (Or.inl rfl)) pgs_nil))))
      (pss_cons (ps_set (i := 3) sc_law.nd rfl (Or.inl rfl) (pe_dmake M_Market hr (by decide) (by rfl) pass0 (pa_cons (pe_callTy call_list_of (by rfl) m_list (by decide +kernel) (pa_cons (pv 1) pa_nil)) (pa_cons (pe_callTy call_list_of (by rfl) m_list (by decide +kernel) (pa_cons (pv 2) pa_nil)) pa_nil))))
      (pss_cons (ps_set (i := 4) sc_law.nd rfl (Or.inl rfl) (pe_d D__law_row hr (by decide) (by rfl) pass0 (pa_cons (pv 0) (pa_cons pe_int (pa_cons pe_int pa_nil)))))
      (pss_cons (ps_setLc (i := 5) (own := [("one", 11)]) (g := gName 11) (tt := tYes) rfl sc_law.nd rfl rfl (sw_true rfl rfl rfl (by decide +kernel)) (pi_list (pv 2)) (blkOk_by (N := N_law) (sc := defScope s_law) (by decide +kernel)) (fun _ _ _ _ _ => (pg_name (i := 11) sc_law.nd rfl (Or.inl rfl))) (fun _ _ _ _ _ => pts_nil) (fun _ _ _ _ _ => (pe_ix (ix_tupK (K := K) rfl) (pv 11) pe_int (fun _ _ => rfl))))
      (pss_cons (ps_set (i := 6) sc_law.nd rfl (Or.inl rfl) (pe_op op_cat (pe_op op_cat (pv 5) (pv 1)) (pe_lst (pa_cons pe_str (pa_cons (pe_ix ix_list (pe_d0 D__law_kept hr (by decide) (by rfl) pass0) (pe_op op_mod (pe_callTy call_int1 (by rfl) m_int (by decide +kernel) (pa_cons (pe_ix ix_list (pv 4) pe_int (fun _ _ => rfl)) pa_nil)) pe_int) (fun _ _ => rfl)) (pa_cons (pe_d D__law_name hr (by decide) (by rfl) pass0 (pa_cons (pe_slice sl_list (pv 4) (po_some pe_int) po_none) (pa_cons pe_int pa_nil))) (pa_cons (pe_op op_add_str (pe_ix ix_list (pv 5) (pe_op op_mod (pe_callTy call_int1 (by rfl) m_int (by decide +kernel) (pa_cons (pe_ix ix_list (pv 4) pe_int (fun _ _ => rfl)) pa_nil)) (pe_callB call_len_seq (by rfl) m_len (by decide +kernel) (pa_cons (pv 5) pa_nil))) (fun _ _ => rfl)) pe_str) pa_nil)))))))
      (pss_cons (ps_set (i := 7) sc_law.nd rfl (Or.inl rfl) (pe_op op_mod (pe_callTy call_int1 (by rfl) m_int (by decide +kernel) (pa_cons (pe_ix ix_list (pv 4) pe_int (fun _ _ => rfl)) pa_nil)) (pe_callB call_len_seq (by rfl) m_len (by decide +kernel) (pa_cons (pv 6) pa_nil))))
      (pss_cons (ps_for PassesOwn.never rfl (pi_list (pe_op op_cat (pe_slice sl_list (pv 6) (po_some (pv 7)) po_none) (pe_slice sl_list (pv 6) po_none (po_some (pv 7))))) (pg_name (i := 8) sc_law.nd rfl (Or.inl rfl))
      (pss_cons (ps_asg (pe_d D__law_told hr (by decide) (by rfl) pass0 (pa_cons (pv 3) (pa_cons (pv 8) pa_nil))) (pg_tup rfl (pgs_cons (pg_name (i := 9) sc_law.nd rfl (Or.inl rfl)) (pgs_cons (pg_name (i := 10) sc_law.nd rfl (Or.inl rfl)) pgs_nil))))
      (pss_cons (ps_if (pt_cmpR op_ne (pv 9) (pe_cmpR op_in_seq (pv 8) (pv 5) (by rfl)) (nomark _))
      (pss_one (ps_ret pe_bl))
      pss_nil)
      (pss_cons (ps_if (PW.pt (pw_and (pt_not (pt_val (pv 9))) (pw_and1 (pt_cmpR op_notBN (pv 10) pe_bl (nomark _)))))
      (pss_one (ps_ret pe_bl))
      pss_nil)
      (pss_one (ps_if (PW.pt (pw_and (pt_val (pv 9)) (pw_and1 (PW.pt (pw_or (pt_not (pt_val (pe_callB call_isi (by rfl) m_isinstance (by decide +kernel) (pa_cons (pv 10) (pa_cons (pe_bltn (v := .ty "str") (by rfl) m_str (by decide +kernel) rfl) pa_nil))))) (pw_or1 (pt_cmpR op_ne (pv 10) (pe_ix ix_tup (pe_ix ix_list (pv 2) (pe_bm PySem.F.plainAttrs_list PySem.F.slot_list_index PySem.F.type_list_index mt_index (pv 5) (pa_cons (pv 8) pa_nil)) (fun _ _ => rfl)) pe_int (fun _ _ => rfl)) (nomark _))))))))
      (pss_one (ps_ret pe_bl))
      pss_nil))))))
      (pss_one (ps_ret (pe_and (pe_cmpR (op_eqD hr.units) (pe_fld (pv 3) rfl) (pv 1) (nomark _)) (pe_one (pe_cmpR (op_eqD hr.units) (pe_fld (pv 3) rfl) (pv 2) (nomark _))))))))))))), ?_⟩
    obtain ⟨a, ns, rfl, hS, _, Z⟩ := h
    refine ⟨_, rfl, a, ns, 0, rfl, hS, fun gs ps ok H1 t D q es s1 nt nD nq ht hD hq hes => ?_⟩
    refine ⟨t, _, rfl, ht, rfl, _, _, rfl, _, _, rfl, rfl, ?_⟩
    have okg := ok.g4
    have okp := ok.p4
    have okp1 := ok.p1
    have dG : Dp K (fresh H H1) (.ref D) (namesD gs) := .lst (SqL.of (by rw [fresh_at nD]; exact hD)) (sV_dp gs)
    have dP : Dp K (fresh H H1) (.ref q) (peopleD ps) := .lst (SqL.of (by rw [fresh_at nq]; exact hq)) hes
    -- market
    refine ⟨_, rfl, D, _, rfl, .inl (SqL.of hD), fun l1 n1 => ?_⟩
    have t1 := same_upd (o := .lst (sV gs)) n1
    refine ⟨_, rfl, q, _, rfl, .inl (SqL.of (t1 _ _ hq)), fun l2 n2 => ?_⟩
    have t2 := t1.trans (same_upd (o := .lst es) n2)
    refine fun x dx nx ndx hne => ⟨_, x, dx, gs, ps, .ref l1, .ref l2, rfl, fun b o e => ?_, nx, upd_same, .lst (SqL.of ((same_upd (o := .lst es) n2) _ _ upd_same)) (sV_dp gs), .lst (SqL.of upd_same) (dpa_same (fresh_sub.trans t2) hes), by omega, by omega, fun H2 fs s2 hi hM => ⟨rfl, ?_⟩⟩
    · rw [upd_ne (ne_of_none e nx), upd_ne (ne_of_none e ndx)]
      exact e
    have s12 := t2.trans s2
    have s02 := s1.trans s12
    refine ⟨_, rfl, _, _, 3, 20, rfl, s02.seq hS, by decide, fun H3 o row s3 no hrow eo => ?_⟩
    obtain ⟨v0, a0, b0, c0⟩ := hrow.at 0 (by decide)
    obtain ⟨v1, a1, b1, c1⟩ := hrow.at 1 (by decide)
    obtain ⟨v2, a2, b2, c2⟩ := hrow.at 2 (by decide)
    have s13 := s12.trans s3
    have hes3 := dpa_same (fresh_sub.trans s13) hes
    have les : es.length = ps.length := by rw [dpa_len hes, List.length_map]
    -- names
    refine ⟨_, rfl, q, rfl, ⟨_, SqL.of (s13 _ _ hq)⟩, fun N nN => ?_⟩
    refine lc_list (xs := es) (fun i H4 => Same H3 H4 ∧ H4 N = some (.lst (sV ((ps.take i).map (·.1))))) ⟨same_upd nN, upd_same⟩ (fun i H4 _ h => SqL.of (h.1 _ _ (s13 _ _ hq))) ?_ ?_
    · rintro i x H4 hi ⟨s4, hN⟩
      obtain ⟨d, hd, hdx⟩ := dpa_got hes3 hi
      rw [List.getElem?_map] at hd
      cases ep : ps[i]? with
      | none => rw [ep] at hd; cases hd
      | some p =>
      rw [ep] at hd
      cases Option.some.inj hd
      obtain ⟨t, zs, rfl, ht, hz⟩ := dp_tup (dp_same s4 hdx)
      obtain ⟨z1, z2, rfl, g1, g2⟩ := dpa_two hz
      cases dp_str g1
      refine ⟨rfl, _, rfl, _, _, _, _, rfl, rfl, ht, rfl, _, hN, by rw [List.length_map, List.length_map, List.length_take]; exact small1000 (by omega), same_mut s4 nN, ?_⟩
      rw [upd_same, List.take_add_one, ep, List.map_append]
      exact congrArg some (congrArg HO.lst (sV_snoc _ _).symm)
    rintro H4 ⟨s4, hN⟩
    rw [les, List.take_of_length_le (Nat.le_refl _)] at hN
    have s14 := s13.trans s4
    have lN : (sV (ps.map (·.1))).length = ps.length := by rw [List.length_map, List.length_map]
    have lG : (sV gs).length = gs.length := List.length_map _
    -- asked
    refine ⟨_, rfl, _, rfl, N, D, _, _, rfl, rfl, hN, s14 _ _ hD, by rw [lN, lG]; exact sz_line (by omega), fun m1 nm1 => ?_⟩
    have u1 := same_upd (o := .lst (sV (ps.map (·.1)) ++ sV gs)) nm1
    refine ⟨rfl, fun H5 pk s5 nk hk => ?_⟩
    have eo5 := (s4.trans (u1.trans s5)) _ _ eo
    obtain ⟨x8, m8, at8⟩ := atI_mod (xs := [V.str "market", V.str "goods", V.str "people", V.str "end", V.str "as", V.str "better", V.str "well", V.str "than"]) (n := 8) (by decide) rfl v0
    refine ⟨_, rfl, _, _, _, _, rfl, rfl, SqL.of eo5, a0, .inl ⟨_, rfl, _, _, rfl, rfl, by show (0 : Int) < 8; decide, ?_⟩⟩
    obtain ⟨z8, e8, l8⟩ : ∃ z : Str, x8 = .str z ∧ z.length ≤ 20 := by
      rcases List.mem_cons.mp m8 with e | m8
      · exact ⟨_, e, by decide +kernel⟩
      rcases List.mem_cons.mp m8 with e | m8
      · exact ⟨_, e, by decide +kernel⟩
      rcases List.mem_cons.mp m8 with e | m8
      · exact ⟨_, e, by decide +kernel⟩
      rcases List.mem_cons.mp m8 with e | m8
      · exact ⟨_, e, by decide +kernel⟩
      rcases List.mem_cons.mp m8 with e | m8
      · exact ⟨_, e, by decide +kernel⟩
      rcases List.mem_cons.mp m8 with e | m8
      · exact ⟨_, e, by decide +kernel⟩
      rcases List.mem_cons.mp m8 with e | m8
      · exact ⟨_, e, by decide +kernel⟩
      exact ⟨_, List.mem_singleton.mp m8, by decide +kernel⟩
    subst e8
    refine ⟨pk, _, _, _, rfl, rfl, SqL.of hk, at8, ?_⟩
    refine ⟨_, rfl, _, rfl, o, _, rfl, SqL.of eo5, fun p2 np2 => ?_⟩
    have u6 := same_upd (o := .lst (cutV (row.map V.int) (some 2) none)) np2
    have hrd : cutV (row.map V.int) (some ((2 : Nat) : Int)) none = (row.drop 2).map V.int := by
      rw [cutV_drop (by rw [List.length_map, hrow.1]; decide), List.map_drop]
    have hrow2 : isRow (row.drop 2) 18 := ⟨by rw [List.length_drop, hrow.1], fun v hv => hrow.2 v (List.mem_of_mem_drop hv)⟩
    refine ⟨p2, row.drop 2, 18, 0, rfl, SqL.of (by rw [upd_same]; exact congrArg some (congrArg HO.lst hrd)), hrow2, by decide, by decide, by decide, fun l hl H7 s7 => ?_⟩
    have s47 := u1.trans (s5.trans (u6.trans s7))
    have hN7 := s47 _ _ hN
    have eo7 := (s4.trans s47) _ _ eo
    obtain ⟨xn, mn, atn⟩ := atI_mod (xs := sV (ps.map (·.1))) (n := (ps.length : Int)) (by omega) (by rw [lN]) v1
    obtain ⟨nl, hnl, rfl⟩ := List.mem_map.mp mn
    have tnl : isT 13 nl := by
      obtain ⟨p, hp, rfl⟩ := List.mem_map.mp hnl
      exact (ok.p p hp).1
    refine ⟨_, rfl, _, rfl, _, _, _, _, rfl, rfl, SqL.of eo7, a1, .inl ⟨_, rfl, _, rfl, N, _, rfl, .inl (SqL.of hN7), ?_⟩⟩
    rw [lN]
    refine ⟨_, _, rfl, rfl, by omega, _, _, _, _, rfl, rfl, SqL.of hN7, atn, ?_⟩
    refine ⟨_, _, rfl, rfl, isT.two tnl (isT.one (show 97 < 128 by decide)) (by decide), ?_⟩
    refine ⟨(show 4 ≤ sizeLine by decide), fun l4 nl4 => ?_⟩
    have u8 := same_upd (o := .lst [.str (Str.ofString ""), .str z8, .str (SX.S l), .str (SX.S nl ++ Str.ofString "a")]) nl4
    have hm1 := ((s5.trans (u6.trans s7)).trans u8) _ _ (upd_same (H := H4) (a := m1) (o := .lst (sV (ps.map (·.1)) ++ sV gs)))
    refine ⟨m1, l4, _, _, rfl, rfl, hm1, upd_same, by rw [List.length_append, lN, lG]; exact sz_line (by show _ + 4 ≤ _; omega), fun A0 nA0 => ?_⟩
    obtain ⟨AV, eAV⟩ : ∃ AV, AV = (sV (ps.map (·.1)) ++ sV gs) ++ [V.str (Str.ofString ""), .str z8, .str (SX.S l), .str (SX.S nl ++ Str.ofString "a")] := ⟨_, rfl⟩
    have lAV : AV.length = ps.length + gs.length + 4 := by rw [eAV, List.length_append, List.length_append, lN, lG]; rfl
    have hall : ∀ x ∈ AV, ∃ z : Str, x = .str z ∧ z.length ≤ 1000 := fun x hx => by
      rw [eAV] at hx
      have sm : ∀ l, isT 13 l → (SX.S l).length ≤ 1000 := fun l h => by rw [SX.S_len]; have := h.2; omega
      rcases List.mem_append.mp hx with hx | hx
      · rcases List.mem_append.mp hx with hx | hx
        · obtain ⟨l', hl', rfl⟩ := List.mem_map.mp hx
          obtain ⟨p, hp, rfl⟩ := List.mem_map.mp hl'
          exact ⟨_, rfl, sm _ (ok.p p hp).1⟩
        · obtain ⟨l', hl', rfl⟩ := List.mem_map.mp hx
          exact ⟨_, rfl, sm _ (ok.g l' hl')⟩
      rcases List.mem_cons.mp hx with e | hx
      · exact ⟨_, e, by decide +kernel⟩
      rcases List.mem_cons.mp hx with e | hx
      · exact ⟨_, e, by omega⟩
      rcases List.mem_cons.mp hx with e | hx
      · exact ⟨_, e, sm l hl⟩
      · refine ⟨_, List.mem_singleton.mp hx, ?_⟩
        rw [show SX.S nl ++ Str.ofString "a" = SX.S (nl ++ [97]) from SX.S_cat nl [97], SX.S_len, List.length_append, List.length_singleton]
        have := tnl.2
        omega
    rw [← eAV] at *
    have u9 := same_upd (o := .lst AV) nA0
    have s48 := s47.trans (u8.trans u9)
    have eo9 := (s4.trans s48) _ _ eo
    have hA9 : upd (upd H7 l4 (.lst [.str (Str.ofString ""), .str z8, .str (SX.S l), .str (SX.S nl ++ Str.ofString "a")])) A0 (.lst AV) A0 = some (.lst AV) := upd_same
    generalize upd (upd H7 l4 (.lst [.str (Str.ofString ""), .str z8, .str (SX.S l), .str (SX.S nl ++ Str.ofString "a")])) A0 (.lst AV) = H9 at s48 eo9 hA9 u9 ⊢
    obtain ⟨k, ek⟩ := Int.eq_ofNat_of_zero_le (show 0 ≤ v2 % (AV.length : Int) from Int.emod_nonneg v2 (by omega))
    have hk2 := Int.emod_lt_of_pos v2 (show 0 < (AV.length : Int) by omega)
    refine ⟨_, rfl, _, _, _, _, rfl, rfl, SqL.of eo9, a2, .inl ⟨_, rfl, _, rfl, A0, _, rfl, .inl (SqL.of hA9), _, _, rfl, rfl, by omega, ?_⟩⟩
    refine ⟨_, rfl, _, rfl, _, rfl, A0, _, rfl, SqL.of hA9, fun b1 nb1 => ?_⟩
    have w1 := same_upd (o := .lst (cutV AV (some (v2 % (AV.length : Int))) none)) nb1
    refine ⟨_, rfl, _, rfl, _, rfl, A0, _, rfl, SqL.of (w1 _ _ hA9), fun b2 nb2 => ?_⟩
    have w2 := same_upd (o := .lst (cutV AV none (some (v2 % (AV.length : Int))))) nb2
    refine ⟨b1, b2, _, _, rfl, rfl, w2 _ _ upd_same, upd_same, ?_, fun b3 nb3 => ?_⟩
    · have := cutV_length AV (some (v2 % (AV.length : Int))) none
      have := cutV_length AV none (some (v2 % (AV.length : Int)))
      exact sz_line (by omega)
    refine ⟨b3, rfl, ⟨_, SqL.of upd_same⟩, ?_⟩
    have w3 := same_upd (o := .lst (cutV AV (some (v2 % (AV.length : Int))) none ++ cutV AV none (some (v2 % (AV.length : Int))))) nb3
    have s49 := s48
    have s4X := s48.trans (w1.trans (w2.trans w3))
    have s3X := s4.trans s4X
    have s0X := s02.trans (s3.trans s3X)
    have hNX := s4X _ _ hN
    have hmem : ∀ x ∈ cutV AV (some (v2 % (AV.length : Int))) none ++ cutV AV none (some (v2 % (AV.length : Int))), ∃ z : Str, x = .str z ∧ z.length ≤ 1000 := fun x hx => by
      rw [ek, cutV_drop (by omega), cutV_take (by omega)] at hx
      rcases List.mem_append.mp hx with hx | hx
      · exact hall x (List.mem_of_mem_drop hx)
      · exact hall x (List.mem_of_mem_take hx)
    have hMX := hM.at.same (s3.trans s3X)
    have hesX := dpa_same s3X hes3
    have hqX := (s13.trans s3X) _ _ hq
    have hDX := (s13.trans s3X) _ _ hD
    have hb3 : upd (upd (upd H9 b1 (.lst (cutV AV (some (v2 % (AV.length : Int))) none))) b2 (.lst (cutV AV none (some (v2 % (AV.length : Int)))))) b3 (.lst (cutV AV (some (v2 % (AV.length : Int))) none ++ cutV AV none (some (v2 % (AV.length : Int))))) b3 = some (.lst (cutV AV (some (v2 % (AV.length : Int))) none ++ cutV AV none (some (v2 % (AV.length : Int))))) := upd_same
    generalize cutV AV (some (v2 % (AV.length : Int))) none ++ cutV AV none (some (v2 % (AV.length : Int))) = LS at hb3 hmem w3 s4X s3X s0X hNX hMX hesX hqX hDX ⊢
    generalize upd (upd (upd H9 b1 (.lst (cutV AV (some (v2 % (AV.length : Int))) none))) b2 (.lst (cutV AV none (some (v2 % (AV.length : Int)))))) b3 (.lst LS) = HX at hb3 s4X s3X s0X hNX hMX hesX hqX hDX ⊢
    refine for_list (K := K) (a := b3) (xs := LS) (fun i σ Ha => Same HX Ha ∧ ∃ y8 y9 y10 : Option V, σ = [some (.ref a), some (.ref D), some (.ref q), some (.ref x), some (.ref o), some (.ref N), some (.ref A0), some (.int (v2 % (AV.length : Int))), y8, y9, y10, none]) ⟨Same.refl _, _, _, _, rfl⟩ (fun i σ Ha _ h => SqL.of (h.1 _ _ hb3)) ?_ ?_
    · rintro i y σ Ha hy ⟨sa, y8, y9, y10, rfl⟩
      obtain ⟨z, rfl, lz⟩ := hmem y (List.mem_of_getElem? hy)
      refine ⟨_, rfl, _, rfl, x, z, gs, ps, rfl, hMX.same sa, lz, fun hd hh Hb t2 sb nt2 ht2 => ?_, fun hn Hb t2 sb nt2 ht2 => ?_⟩
      · refine ⟨t2, _, rfl, ht2, rfl, _, _, rfl, _, _, rfl, rfl, ?_⟩
        have sab := sa.trans sb
        have hNb := sab _ _ hNX
        obtain ⟨idx, pp, i1, i2, i3, i4, i5⟩ := head_idx hh
        obtain ⟨xv, xe, xd⟩ := dpa_get (i := idx) hesX (by rw [List.getElem?_map, i1]; rfl)
        obtain ⟨t3, zs, rfl, ht3, hz3⟩ := dp_tup (dp_same sab xd)
        obtain ⟨z1, z2, rfl, g1, g2⟩ := dpa_two hz3
        cases dp_str g1
        cases dp_str g2
        refine ⟨_, rfl, _, rfl, _, rfl, N, _, rfl, .inl (SqL.of hNb), rfl, sV_flat _, rfl, _, rfl, iteNS (by show V.bl true = V.bl (inV (.str z) (sV (ps.map (·.1)))); rw [head_in, hh]; rfl) ?_⟩
        refine ⟨_, rfl, true, rfl, iteF (iteF ?_)⟩
        refine ⟨_, rfl, true, rfl, iteT ?_⟩
        refine ⟨_, rfl, _, _, _, _, true, rfl, .ty _, .base (.str _), kit_ty (by decide +kernel), true, rfl, iteF ?_⟩
        refine ⟨_, rfl, _, rfl, _, rfl, .inl ⟨rfl, _, SqL.of hNb⟩, _, rfl, N, _, _, idx, _, rfl, rfl, SqL.of hNb, rfl, sV_flat _, i4, by show (z == z) = true; simp, i5, _, _, _, _, rfl, rfl, SqL.of (sab _ _ hqX), atI_nat xe, _, _, _, _, rfl, rfl, ht3, rfl, rfl, _, rfl, iteNS (by rw [i2]) ?_⟩
        exact ⟨sab, _, _, _, rfl⟩
      · refine ⟨t2, _, rfl, ht2, rfl, _, _, rfl, _, _, rfl, rfl, ?_⟩
        have sab := sa.trans sb
        have hNb := sab _ _ hNX
        refine ⟨_, rfl, _, rfl, _, rfl, N, _, rfl, .inl (SqL.of hNb), rfl, sV_flat _, rfl, _, rfl, iteNS (by show V.bl false = V.bl (inV (.str z) (sV (ps.map (·.1)))); rw [head_in, hn]; rfl) ?_⟩
        refine ⟨_, rfl, false, rfl, iteT ?_⟩
        refine ⟨_, rfl, true, rfl, .inr ⟨true, rfl⟩, _, rfl, iteF ?_⟩
        refine ⟨_, rfl, false, rfl, iteF (iteF ?_)⟩
        exact ⟨sab, _, _, _, rfl⟩
    rintro σ Ha ⟨sa, y8, y9, y10, rfl⟩
    obtain ⟨v, w, ⟨C1, dx1, fs1, f1, cl1, na1, lk1⟩, dv, ⟨C2, dx2, fs2, f2, cl2, na2, lk2⟩, dw⟩ := hMX.same sa
    have shg := names_shaped ok.g
    have shp := people_shaped ok.p
    refine ⟨_, rfl, x, C1, dx1, fs1, _, rfl, f1, cl1, na1, lk1, _, rfl, namesD gs, namesD gs, dv, .lst (SqL.of (sa _ _ hDX)) (sV_dp gs), shg, shg, ?_⟩
    rw [SeqAt.eqv_refl _ (SeqAt.canLay_of_shaped shg)]
    refine ⟨true, rfl, ?_⟩
    refine ⟨_, rfl, x, C2, dx2, fs2, _, rfl, f2, cl2, na2, lk2, _, rfl, peopleD ps, peopleD ps, dw, .lst (SqL.of (sa _ _ hqX)) (dpa_same sa hesX), shp, shp, ?_⟩
    rw [SeqAt.eqv_refl _ (SeqAt.canLay_of_shaped shp)]
    exact Z _
end
theorem all_mk {l : PySem.W.OpenLaw} {w : World} {K : PySem.W.Frag} {h : Heap} {mg : Str → Option Value} {fa f1 f2 f3 f4 f5 f6 f7 f8 C_UnknownName C_BadText C_NotAllowed C_BookError C_Market : Addr} (X : K.In h) (G : h.Ns mainGlobals mg) (hfa : mg "law" = some (.ref fa))
    {od1 an1 od2 an2 od3 an3 od4 an4 od5 an5 od6 an6 od7 an7 od8 an8 : Option Addr} {sl1 sl2 sl3 sl4 sl5 sl6 sl7 sl8 : Array (Option Value)} {oc1 kV1 dc1 pm1 ct1 cd1 oc2 kV2 dc2 pm2 ct2 cd2 oc3 kV3 dc3 pm3 ct3 cd3 oc4 kV4 dc4 pm4 ct4 cd4 oc5 kV5 dc5 pm5 ct5 cd5 oc6 kV6 dc6 pm6 ct6 cd6 oc7 kV7 dc7 pm7 ct7 cd7 oc8 kV8 dc8 pm8 ct8 cd8 : Value}
    (aC_UnknownName : PySem.W.nsIn K mainGlobals "UnknownName" = some (some (.ref C_UnknownName)))
    (aC_BadText : PySem.W.nsIn K mainGlobals "BadText" = some (some (.ref C_BadText)))
    (aC_NotAllowed : PySem.W.nsIn K mainGlobals "NotAllowed" = some (some (.ref C_NotAllowed)))
    (aC_BookError : PySem.W.nsIn K mainGlobals "BookError" = some (some (.ref C_BookError)))
    (aC_Market : PySem.W.nsIn K mainGlobals "Market" = some (some (.ref C_Market)))
    (xc_UnknownName : PySem.W.excIn K C_UnknownName [.type "ValueError", .type "Exception", .type "BaseException", .type "object"] "ValueError.__new__" = true)
    (ek_UnknownName : PySem.W.keepIn K (.ref C_UnknownName) = true)
    (eb_UnknownName : PySem.W.subIn K (.ref C_UnknownName) (.type "BaseException") = some true)
    (et_UnknownName : PySem.W.typeIn K (.ref C_UnknownName) = some (.type "type"))
    (es_UnknownName : PySem.W.subIn K (.ref C_UnknownName) (.ref C_UnknownName) = some true)
    (ed_UnknownName : PySem.W.hasDictIn K C_UnknownName = true)
    (eg_UnknownName : PySem.W.findIn K (.ref C_UnknownName) "__getattribute__" = some (some (.builtin "BaseException.__getattribute__")))
    (eh_UnknownName : PySem.W.findIn K (.ref C_UnknownName) "__getattr__" = some none)
    (ea_UnknownName : PySem.W.findIn K (.ref C_UnknownName) "__class__" = some (some (.builtin "object.__class__")))
    (en_UnknownName : PySem.W.specialIn K (.builtin "object.__class__") "__get__" = some (some (.builtin "getset_descriptor.__get__")))
    (eT_UnknownName : PySem.W.takesIn K (.builtin "object.__class__") = some true)
    (em_UnknownName : PySem.W.mroIn K C_UnknownName (.type "object") = some true)
    (mk_Market : PySem.W.makesIn K C_Market = true)
    (in_Market : PySem.W.findIn K (.ref C_Market) "__init__" = some (some (.ref f7)))
    (kc_Market : PySem.W.keepIn K (.ref C_Market) = true)
    (pg_Market : PySem.W.plainGet K C_Market Str.empty = true)
    (hd_Market : PySem.W.hasDictIn K C_Market = true)
    (po_Market : PySem.W.plainOver K C_Market = true)
    (sa_Market : PySem.W.findIn K (.ref C_Market) "__setattr__" = some (some (.builtin "object.__setattr__")))
    (nA_Market_goods : PySem.W.findIn K (.ref C_Market) "goods" = some none)
    (nA_Market_people : PySem.W.findIn K (.ref C_Market) "people" = some none)
    (fn7 : PySem.W.isFn K (.ref f7) = true)
    (k_UB : PySem.W.kitOne K (.ref C_UnknownName) (.ref C_BadText) = some false)
    (k_UN : PySem.W.kitOne K (.ref C_UnknownName) (.ref C_NotAllowed) = some false)
    (k_UK : PySem.W.kitOne K (.ref C_UnknownName) (.ref C_BookError) = some true)
    (k_UV : PySem.W.kitOne K (.ref C_UnknownName) (.type "ValueError") = some true)
    (a1 : PySem.W.nsIn K mainGlobals "_law_row" = some (some (.ref f1)))
    (l1 : K.lookup f1 = some ⟨oc1, od1, .func (PySem.W.fnOf "_law_row" "_law_row" (defArgs s__law_row) (defBody s__law_row) (defScope s__law_row) .none kV1 dc1 pm1 an1 cd1 ct1), sl1⟩)
    (c1 : PySem.W.codeIn K cd1 "_law_row" = true)
    (k1 : PySem.W.keepIn K (.ref f1) = true)
    (a2 : PySem.W.nsIn K mainGlobals "_law_kept" = some (some (.ref f2)))
    (l2 : K.lookup f2 = some ⟨oc2, od2, .func (PySem.W.fnOf "_law_kept" "_law_kept" (defArgs s__law_kept) (defBody s__law_kept) (defScope s__law_kept) .none kV2 dc2 pm2 an2 cd2 ct2), sl2⟩)
    (c2 : PySem.W.codeIn K cd2 "_law_kept" = true)
    (k2 : PySem.W.keepIn K (.ref f2) = true)
    (a3 : PySem.W.nsIn K mainGlobals "_law_name" = some (some (.ref f3)))
    (l3 : K.lookup f3 = some ⟨oc3, od3, .func (PySem.W.fnOf "_law_name" "_law_name" (defArgs s__law_name) (defBody s__law_name) (defScope s__law_name) .none kV3 dc3 pm3 an3 cd3 ct3), sl3⟩)
    (c3 : PySem.W.codeIn K cd3 "_law_name" = true)
    (k3 : PySem.W.keepIn K (.ref f3) = true)
    (a4 : PySem.W.nsIn K mainGlobals "_law_market" = some (some (.ref f4)))
    (l4 : K.lookup f4 = some ⟨oc4, od4, .func (PySem.W.fnOf "_law_market" "_law_market" (defArgs s__law_market) (defBody s__law_market) (defScope s__law_market) .none kV4 dc4 pm4 an4 cd4 ct4), sl4⟩)
    (c4 : PySem.W.codeIn K cd4 "_law_market" = true)
    (k4 : PySem.W.keepIn K (.ref f4) = true)
    (a5 : PySem.W.nsIn K mainGlobals "head_of" = some (some (.ref f5)))
    (l5 : K.lookup f5 = some ⟨oc5, od5, .func (PySem.W.fnOf "head_of" "head_of" (defArgs s_head_of) (defBody s_head_of) (defScope s_head_of) .none kV5 dc5 pm5 an5 cd5 ct5), sl5⟩)
    (c5 : PySem.W.codeIn K cd5 "head_of" = true)
    (k5 : PySem.W.keepIn K (.ref f5) = true)
    (a6 : PySem.W.nsIn K mainGlobals "_law_told" = some (some (.ref f6)))
    (l6 : K.lookup f6 = some ⟨oc6, od6, .func (PySem.W.fnOf "_law_told" "_law_told" (defArgs s__law_told) (defBody s__law_told) (defScope s__law_told) .none kV6 dc6 pm6 an6 cd6 ct6), sl6⟩)
    (c6 : PySem.W.codeIn K cd6 "_law_told" = true)
    (k6 : PySem.W.keepIn K (.ref f6) = true)
    (l7 : K.lookup f7 = some ⟨oc7, od7, .func (PySem.W.fnOf "__init__" "Market.__init__" (defArgs s_Market_init) (defBody s_Market_init) (defScope s_Market_init) .none kV7 dc7 pm7 an7 cd7 ct7), sl7⟩)
    (c7 : PySem.W.codeIn K cd7 "Market.__init__" = true)
    (k7 : PySem.W.keepIn K (.ref f7) = true)
    (a8 : PySem.W.nsIn K mainGlobals "law" = some (some (.ref f8)))
    (l8 : K.lookup f8 = some ⟨oc8, od8, .func (PySem.W.fnOf "law" "law" (defArgs s_law) (defBody s_law) (defScope s_law) .none kV8 dc8 pm8 an8 cd8 ct8), sl8⟩)
    (c8 : PySem.W.codeIn K cd8 "law" = true)
    (k8 : PySem.W.keepIn K (.ref f8) = true)
    (z_range : PySem.W.nsIn K mainGlobals "range" = some none)
    (z_len : PySem.W.nsIn K mainGlobals "len" = some none)
    (z_int : PySem.W.nsIn K mainGlobals "int" = some none)
    (z_max : PySem.W.nsIn K mainGlobals "max" = some none)
    (z_isinstance : PySem.W.nsIn K mainGlobals "isinstance" = some none)
    (z_ValueError : PySem.W.nsIn K mainGlobals "ValueError" = some none)
    (z_list : PySem.W.nsIn K mainGlobals "list" = some none)
    (z_str : PySem.W.nsIn K mainGlobals "str" = some none)
    : ∃ fd : FuncData, (∀ (s : Shared) (v : Value), BindsTo s fd ⟨[v], []⟩ [("script", v)]) ∧ ∀ base : Heap, K.In base → base.Ns mainGlobals mg → FnOk l.prog w K mg base CX0 4 fa fd ["script"] (sp_law K) := by
  have e := hfa.symm.trans (PySem.W.mg_of X G a8)
  cases e
  have m_range : mg "range" = none := PySem.W.mg_none_of X G z_range
  have m_len : mg "len" = none := PySem.W.mg_none_of X G z_len
  have m_int : mg "int" = none := PySem.W.mg_none_of X G z_int
  have m_max : mg "max" = none := PySem.W.mg_none_of X G z_max
  have m_isinstance : mg "isinstance" = none := PySem.W.mg_none_of X G z_isinstance
  have m_ValueError : mg "ValueError" = none := PySem.W.mg_none_of X G z_ValueError
  have m_list : mg "list" = none := PySem.W.mg_none_of X G z_list
  have m_str : mg "str" = none := PySem.W.mg_none_of X G z_str
  have c_UnknownName : mg "UnknownName" = some (.ref C_UnknownName) := PySem.W.mg_of X G aC_UnknownName
  have c_BadText : mg "BadText" = some (.ref C_BadText) := PySem.W.mg_of X G aC_BadText
  have c_NotAllowed : mg "NotAllowed" = some (.ref C_NotAllowed) := PySem.W.mg_of X G aC_NotAllowed
  have c_BookError : mg "BookError" = some (.ref C_BookError) := PySem.W.mg_of X G aC_BookError
  have c_Market : mg "Market" = some (.ref C_Market) := PySem.W.mg_of X G aC_Market
  have E_UnknownName : ErrD K mg "UnknownName" C_UnknownName := ⟨c_UnknownName, xc_UnknownName, ek_UnknownName, eb_UnknownName, et_UnknownName, PySem.W.exm_ref eb_UnknownName ed_UnknownName et_UnknownName es_UnknownName, ⟨eg_UnknownName, eh_UnknownName, eb_UnknownName, ed_UnknownName, ea_UnknownName, en_UnknownName, eT_UnknownName, em_UnknownName⟩⟩
  have T_Market : Cls K C_Market := ⟨pg_Market, hd_Market, po_Market, sa_Market⟩
  have na_Market_goods : NoAttr K C_Market "goods" := nA_Market_goods
  have na_Market_people : NoAttr K C_Market "people" := nA_Market_people
  refine ⟨PySem.W.fnOf "law" "law" (defArgs s_law) (defBody s_law) (defScope s_law) .none kV8 dc8 pm8 an8 cd8 ct8, fun s v => .of_eq rfl, fun base _ _ => ?_⟩
  have F1 := fun_mk (st := s__law_row) l1 c1 k1
  have D__law_row : Dn l.prog w K mg base CX0 1 "_law_row" (sp__law_row K) := ⟨_, _, _, ok__law_row F1 m_range m_len m_int, PySem.W.mg_of X G a1, F1.kp, F1.binds (ps := ["script", "place", "many"]) fun _ _ _ _ _ _ us hl => match us, hl with | [_, _, _], _ => rfl⟩
  have F2 := fun_mk (st := s__law_kept) l2 c2 k2
  have D__law_kept : Dn l.prog w K mg base CX0 1 "_law_kept" (sp__law_kept K) := ⟨_, _, _, ok__law_kept F2, PySem.W.mg_of X G a2, F2.kp, F2.binds (ps := []) fun _ _ _ _ _ _ us hl => match us, hl with | [], _ => rfl⟩
  have F3 := fun_mk (st := s__law_name) l3 c3 k3
  have D__law_name : Dn l.prog w K mg base CX0 2 "_law_name" (sp__law_name K) := ⟨_, _, _, ok__law_name F3 D__law_kept m_range m_int m_max, PySem.W.mg_of X G a3, F3.kp, F3.binds (ps := ["row", "k"]) fun _ _ _ _ _ _ us hl => match us, hl with | [_, _], _ => rfl⟩
  have F4 := fun_mk (st := s__law_market) l4 c4 k4
  have D__law_market : Dn l.prog w K mg base CX0 3 "_law_market" (sp__law_market K) := ⟨_, _, _, ok__law_market F4 D__law_row D__law_name m_range m_int, PySem.W.mg_of X G a4, F4.kp, F4.binds (ps := ["script", "place"]) fun _ _ _ _ _ _ us hl => match us, hl with | [_, _], _ => rfl⟩
  have F5 := fun_mk (st := s_head_of) l5 c5 k5
  have D_head_of : Dn l.prog w K mg base (L2.CX l.prog w) 1 "head_of" (sp_head_of K C_UnknownName) := ⟨_, _, _, ok_head_of F5 E_UnknownName c_UnknownName, PySem.W.mg_of X G a5, F5.kp, F5.binds (ps := ["market", "person"]) fun _ _ _ _ _ _ us hl => match us, hl with | [_, _], _ => rfl⟩
  have F6 := fun_mk (st := s__law_told) l6 c6 k6
  have D__law_told : Dn l.prog w K mg base CX0 2 "_law_told" (sp__law_told K) := ⟨_, _, _, ok__law_told F6 D_head_of m_isinstance m_ValueError E_UnknownName c_UnknownName c_BadText c_NotAllowed c_BookError k_UB k_UN k_UK k_UV, PySem.W.mg_of X G a6, F6.kp, F6.binds (ps := ["market", "person"]) fun _ _ _ _ _ _ us hl => match us, hl with | [_, _], _ => rfl⟩
  have F7 := fun_mk (st := s_Market_init) l7 c7 k7
  have M_Market : DMk l.prog w K mg base CX0 1 "Market" C_Market (sp_Market_init K C_Market) := ⟨_, _, _, ⟨mk_Market, in_Market, fn7, kc_Market⟩, ok_Market_init F7 m_list T_Market na_Market_goods na_Market_people, PySem.W.mg_of X G aC_Market, F7.binds (ps := ["self", "goods", "people"]) fun _ _ _ _ _ _ us hl => match us, hl with | [_, _, _], _ => rfl⟩
  have F8 := fun_mk (st := s_law) l8 c8 k8
  exact ok_law F8 D__law_market D__law_row D__law_told D__law_name D__law_kept m_list m_int m_len m_isinstance m_str M_Market c_Market
end BB
open PySem PySem.W PyProof.Rows
set_option maxHeartbeats 0 in
theorem PySem.Challenge.cw_buybook_k09_heads_holds : PySem.Challenge.rw_buybook_k09_heads.Holds := by
  w_on; o_law; k_head; (case hw => w_witness2)
  k_fill
  refine L2.walk_of (l := PySem.Challenge.rw_buybook_k09_heads) (n := 63) (k := 4) (x := "script") (CX := fun _ => L2.CX0) (sp := fun w => BB.sp_law _) rfl (by decide) rfl ⟨rfl, by decide, by decide⟩ (fun w h Y => PySem.W.kIn_of Y) ?F (fun _ _ a ns hl _ hS => ⟨a, ns, rfl, hS, hl, fun _ => rfl⟩) (fun _ _ _ _ _ h => h)
  case F =>
    intro w mg fa h KX G hmg
    refine' BB.all_mk KX G hmg ?aC_UnknownName ?aC_BadText ?aC_NotAllowed ?aC_BookError ?aC_Market ?xc_UnknownName ?ek_UnknownName ?eb_UnknownName ?et_UnknownName ?es_UnknownName ?ed_UnknownName ?eg_UnknownName ?eh_UnknownName ?ea_UnknownName ?en_UnknownName ?eT_UnknownName ?em_UnknownName ?mk_Market ?in_Market ?kc_Market ?pg_Market ?hd_Market ?po_Market ?sa_Market ?nA_Market_goods ?nA_Market_people ?fn7 ?k_UB ?k_UN ?k_UK ?k_UV ?a1 ?l1 ?c1 ?k1 ?a2 ?l2 ?c2 ?k2 ?a3 ?l3 ?c3 ?k3 ?a4 ?l4 ?c4 ?k4 ?a5 ?l5 ?c5 ?k5 ?a6 ?l6 ?c6 ?k6 ?l7 ?c7 ?k7 ?a8 ?l8 ?c8 ?k8 ?z_range ?z_len ?z_int ?z_max ?z_isinstance ?z_ValueError ?z_list ?z_str
    (case aC_UnknownName => k_is); (case aC_BadText => k_is); (case aC_NotAllowed => k_is); (case aC_BookError => k_is); (case aC_Market => k_is); (case xc_UnknownName => k_exc); (case ek_UnknownName => k_is); (case eb_UnknownName => k_is); (case et_UnknownName => k_is); (case es_UnknownName => k_is); (case ed_UnknownName => k_is); (case eg_UnknownName => k_is); (case eh_UnknownName => k_is); (case ea_UnknownName => k_is); (case en_UnknownName => k_is); (case eT_UnknownName => k_is); (case em_UnknownName => k_is); (case mk_Market => k_is); (case in_Market => k_is); (case kc_Market => k_is); (case pg_Market => k_is); (case hd_Market => k_is); (case po_Market => k_is); (case sa_Market => k_is); (case nA_Market_goods => k_is); (case nA_Market_people => k_is); (case fn7 => k_is); (case k_UB => kit_is); (case k_UN => kit_is); (case k_UK => kit_is); (case k_UV => kit_is); (case a1 => k_is); (case l1 => k_is); (case c1 => k_is); (case k1 => k_is); (case a2 => k_is); (case l2 => k_is); (case c2 => k_is); (case k2 => k_is); (case a3 => k_is); (case l3 => k_is); (case c3 => k_is); (case k3 => k_is); (case a4 => k_is); (case l4 => k_is); (case c4 => k_is); (case k4 => k_is); (case a5 => k_is); (case l5 => k_is); (case c5 => k_is); (case k5 => k_is); (case a6 => k_is); (case l6 => k_is); (case c6 => k_is); (case k6 => k_is); (case l7 => k_is); (case c7 => k_is); (case k7 => k_is); (case a8 => k_is); (case l8 => k_is); (case c8 => k_is); (case k8 => k_is); (case z_range => k_is); (case z_len => k_is); (case z_int => k_is); (case z_max => k_is); (case z_isinstance => k_is); (case z_ValueError => k_is); (case z_list => k_is); (case z_str => k_is)
