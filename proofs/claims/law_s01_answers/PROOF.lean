import PyProof.Rows.All
import Wide.All
import OpenK.AllK
import Wide.FinOn
import Open.SpecLaws
import KE.OsGo
import HandS.ForSpec
import HandS.TryMany
import HandS.Wide
import PySem.Challenge.RW_coldfrontrow_s01_answers
import HandS.Iter
import HandS.Walk
import KE.GoesMore
import KE.GoesEnum
import HandS.Zip
import HandS.Rev
import PyProof.ListNew
import HandS.Comp
import KE.Datum
import PyProof.AutoSeq1
import HandS.CallLocal
set_option Elab.async false
set_option linter.all false
set_option maxRecDepth 100000
set_option maxHeartbeats 2000000
namespace CF
/-- the two parts that in_lowest_terms hands back -/
theorem low_num {n d : Int} (h : 0 < d) : (mkRat n d.toNat).num = n / ((Int.gcd n d : Nat) : Int) := by
  have hd : d.toNat ≠ 0 := by omega
  have e : Nat.gcd d.toNat n.natAbs = Int.gcd n d := by
    show Nat.gcd d.toNat n.natAbs = Nat.gcd n.natAbs d.natAbs
    rw [Nat.gcd_comm]
    congr 1
    omega
  rw [Rat.num_mkRat, if_neg hd, e]
theorem low_den {n d : Int} (h : 0 < d) : (((mkRat n d.toNat).den : Nat) : Int) = d / ((Int.gcd n d : Nat) : Int) := by
  have hd : d.toNat ≠ 0 := by omega
  have e : Nat.gcd d.toNat n.natAbs = Int.gcd n d := by
    show Nat.gcd d.toNat n.natAbs = Nat.gcd n.natAbs d.natAbs
    rw [Nat.gcd_comm]
    congr 1
    omega
  rw [Rat.den_mkRat, if_neg hd, e, Int.natCast_ediv]
  congr 1
  omega
theorem gcd_step {a b : Int} : Int.gcd b (a % b) = Int.gcd a b := by
  rw [Int.emod_def, Int.gcd_sub_mul_left_right, Int.gcd_comm]
theorem gcd_pos {n d : Int} (h : 0 < d) : 0 < ((Int.gcd n d : Nat) : Int) := by
  have : 0 < Int.gcd n d := Int.gcd_pos_of_ne_zero_right n (by omega)
  omega
theorem gcd_le {n d : Int} (h : 0 < d) : ((Int.gcd n d : Nat) : Int) ≤ d := Int.gcd_le_right n h
theorem rat_self (q : Rat) : q = (q.num : Rat) / ((q.den : Nat) : Rat) := by
  rw [← Rat.mkRat_eq_div, Rat.mkRat_self]
theorem den_cast_ne (q : Rat) : ((q.den : Nat) : Rat) ≠ 0 := by
  intro h
  have := q.den_nz
  exact this (by exact_mod_cast h)
theorem add_times_is (p q : Rat) (f : Int) : mkRat (p.num * q.den + f * q.num * p.den) (p.den * q.den) = p + (f : Rat) * q := by
  rw [Rat.mkRat_eq_div]
  have hp := den_cast_ne p
  have hq := den_cast_ne q
  have e1 := rat_self p
  have e2 := rat_self q
  generalize hpn : (p.num : Rat) = a at *
  generalize hpd : ((p.den : Nat) : Rat) = b at *
  generalize hqn : (q.num : Rat) = c at *
  generalize hqd : ((q.den : Nat) : Rat) = d at *
  have : ((p.num * (q.den : Int) + f * q.num * (p.den : Int) : Int) : Rat) = a * d + f * c * b := by
    rw [← hpn, ← hpd, ← hqn, ← hqd]
    push_cast
    rfl
  rw [this]
  have h2 : ((p.den * q.den : Nat) : Rat) = b * d := by rw [← hpd, ← hqd]; push_cast; rfl
  rw [h2, e1, e2]
  grind
theorem weighted_is (p q : Rat) (w : Nat) : mkRat ((w : Int) * p.num * q.den + q.num * p.den) ((w + 1) * p.den * q.den) = ((w : Rat) * p + q) / ((w + 1 : Nat) : Rat) := by
  rw [Rat.mkRat_eq_div]
  have hp := den_cast_ne p
  have hq := den_cast_ne q
  have hw : ((w + 1 : Nat) : Rat) ≠ 0 := by
    intro h
    have : (w + 1 : Nat) = 0 := by exact_mod_cast h
    omega
  have e1 := rat_self p
  have e2 := rat_self q
  generalize hpn : (p.num : Rat) = a at *
  generalize hpd : ((p.den : Nat) : Rat) = b at *
  generalize hqn : (q.num : Rat) = c at *
  generalize hqd : ((q.den : Nat) : Rat) = d at *
  generalize hwd : ((w + 1 : Nat) : Rat) = v at *
  have : (((w : Int) * p.num * (q.den : Int) + q.num * (p.den : Int) : Int) : Rat) = (w : Rat) * a * d + c * b := by
    rw [← hpn, ← hpd, ← hqn, ← hqd]
    push_cast
    rfl
  rw [this]
  have h2 : (((w + 1) * p.den * q.den : Nat) : Rat) = v * b * d := by rw [← hpd, ← hqd, ← hwd]; push_cast; rfl
  rw [h2, e1, e2]
  grind
end CF
namespace CF
open PySem PySem.Spec PyProof.Rows L2
open PySem.W (Codec)
theorem ifB {c : Bool} {A B : Prop} (h1 : c = true → A) (h2 : c = false → B) : if c = true then A else B := by
  cases c with
  | true => exact h1 rfl
  | false => rw [if_neg Bool.false_ne_true]; exact h2 rfl
def top (i : Nat) : Stmt := PySem.Challenge.pw_coldfrontrow_s01_answers.main.body.getD i (.Pass ⟨0, 0, 0, 0⟩)
abbrev sGcd : Stmt := top 9
abbrev sLow : Stmt := top 10
abbrev sWhole : Stmt := top 11
abbrev sAdd : Stmt := top 12
abbrev sAddT : Stmt := top 13
abbrev sWm : Stmt := top 14
/-- a fraction at a -/
def FrA (H : Hp) (a : Addr) (q : Rat) : Prop := H a = some (.tup [.int q.num, .int (q.den : Int)])
theorem FrA.same {H H' : Hp} {a : Addr} {q : Rat} (s : Same H H') (h : FrA H a q) : FrA H' a q := s _ _ h
theorem same_upd {H : Hp} {p : Addr} {o : HO} (h : H p = none) : Same H (upd H p o) := fun b o' e => by
  rw [upd_ne (fun z => by rw [z, h] at e; cases e)]
  exact e
/-- a number that fits -/
def Fit (k : Nat) (q : Rat) : Prop := q.num.natAbs < 2 ^ k ∧ q.den < 2 ^ k
def spGcd : Sp := fun vs H Q _ => ∃ n d : Int, vs = [.int n, .int d] ∧ 0 < d ∧ Q (.int ((Int.gcd n d : Nat) : Int)) H
def spLow : Sp := fun vs H Q _ => ∃ n d : Int, vs = [.int n, .int d] ∧ 0 < d ∧ d.natAbs < 2 ^ 9000 ∧ ∀ H' p, Same H H' → FrA H' p (mkRat n d.toNat) → Q (.ref p) H'
def spWhole : Sp := fun vs H Q _ => ∃ n : Int, vs = [.int n] ∧ ∀ H' p, Same H H' → FrA H' p (n : Rat) → Q (.ref p) H'
def spAddT : Sp := fun vs H Q _ => ∃ (a b : Addr) (p q : Rat) (f : Int), vs = [.ref a, .int f, .ref b] ∧ FrA H a p ∧ FrA H b q ∧ Fit 4400 p ∧ Fit 4400 q ∧ f.natAbs < 2 ^ 10 ∧
  ∀ H' r, Same H H' → FrA H' r (p + (f : Rat) * q) → Q (.ref r) H'
def spAdd : Sp := fun vs H Q _ => ∃ (a b : Addr) (p q : Rat), vs = [.ref a, .ref b] ∧ FrA H a p ∧ FrA H b q ∧ Fit 4400 p ∧ Fit 4400 q ∧
  ∀ H' r, Same H H' → FrA H' r (p + q) → Q (.ref r) H'
def spWm : Sp := fun vs H Q _ => ∃ (a b : Addr) (p q : Rat) (w : Nat), vs = [.int (w : Int), .ref a, .ref b] ∧ FrA H a p ∧ FrA H b q ∧ Fit 4400 p ∧ Fit 4400 q ∧ w < 2 ^ 10 ∧
  ∀ H' r, Same H H' → FrA H' r (((w : Rat) * p + q) / ((w + 1 : Nat) : Rat)) → Q (.ref r) H'
section
variable {P : Program} {w : World} {K : PySem.W.Frag} {mg : Str → Option Value} {base : Heap}
theorem scG : FnScope ["first", "second", "remainder"] ["first", "second"] (defScope sGcd) := ⟨rfl, rfl, rfl, by decide +kernel, rfl, by decide +kernel, by decide +kernel⟩
theorem ok_gcd {f : Addr} {fd : FuncData} (F : Fun K "greatest_common_divisor" "greatest_common_divisor" sGcd f fd) : FnOk P w K mg base CX0 1 f fd ["first", "second"] spGcd := by
  refine F.ok scG (fun vs H Q E h => ?_) (fun cdv A outer s H vs Q E hr h => ⟨_, pss_cons (ps_while PassesOwn.never (pt_cmpR op_ne (pv 1) pe_int (nomark _))
      (pss_cons (ps_set (i := 2) scG.nd rfl (Or.inl rfl) (pe_op op_mod (pv 0) (pv 1)))
      (pss_cons (ps_set (i := 0) scG.nd rfl (Or.inl rfl) (pv 1))
      (pss_one (ps_set (i := 1) scG.nd rfl (Or.inl rfl) (pv 2))))))
    (pss_one (ps_ret (pv 0))), ?_⟩)
  · obtain ⟨n, d, rfl, _⟩ := h
    rfl
  · obtain ⟨n, d, rfl, hd, k⟩ := h
    refine while_by (fun σ H' => H' = H ∧ ∃ (a b : Int) (v : Option V), σ = [some (.int a), some (.int b), v] ∧ 0 ≤ b ∧ (b = 0 → 0 ≤ a) ∧ Int.gcd a b = Int.gcd n d) (fun σ _ => match σ with | [_, some (.int b), _] => b.toNat | _ => 0)
      ⟨rfl, n, d, none, rfl, by omega, by omega, rfl⟩ ?_ ?_
    · rintro σ H' ⟨rfl, a, b, v, rfl, hb, ha, hg⟩
      refine ⟨_, rfl, rfl, _, rfl, ?_⟩
      refine ifB (fun c => ?_) (fun c => ?_)
      · have c : ¬ b = 0 := by simpa using c
        refine ⟨_, rfl, _, rfl, _, _, rfl, rfl, by omega, _, rfl, _, rfl, ⟨rfl, _, _, _, rfl, Int.emod_nonneg _ c, fun _ => hb, gcd_step.trans hg⟩, ?_⟩
        have := Int.emod_lt_of_pos a (by omega : 0 < b)
        show (a % b).toNat < b.toNat
        omega
      · have c : b = 0 := by simpa using c
        subst c
        refine ⟨_, rfl, ?_⟩
        have e : a = ((Int.gcd n d : Nat) : Int) := by
          rw [← hg, Int.gcd_zero_right]
          omega
        rw [e]
        exact k
    · rintro σ H' Q' Q'' i ⟨v, e, e1, b, e2, h⟩
      exact ⟨v, e, e1, b, e2, i _ _ h⟩
end
end CF
namespace CF
open PySem PySem.Spec PyProof.Rows L2
open PySem.W (Codec)
section
variable {P : Program} {w : World} {K : PySem.W.Frag} {mg : Str → Option Value} {base : Heap}
/-- a def of the module, called by its name -/
structure DefOk (CX : CXT) (P : Program) (w : World) (K : PySem.W.Frag) (mg : Str → Option Value) (base : Heap) (k : Nat) (x : Str) (ps : List Str) (sp : Sp) : Prop where
  ex : ∃ (f : Addr) (fd : FuncData), FnOk P w K mg base CX k f fd ps sp ∧ mg x = some (.ref f) ∧ PySem.W.keepIn K (.ref f) = true ∧ Binds K fd ps []
theorem pe_d {X : Cx} {CX : CXT} {k j : Nat} {x : Str} {ps : List Str} {sp : Sp} {E : XK} {p pos : Pos} {e : Expr} {es : List Expr} {t : TA} (c : DefOk CX X.prog X.w X.K X.mg X.base k x ps sp) (hr : Room j X.A) (hk : k ≤ j) (hg : Gl X x) (hx : Passes CX X E) (ha : PA X (e :: es) t)
    (hdb : (x == ("__debug__" : Str)) = false := by decide) (he : starEach (e :: es) X.env = (false, eval e X.env) :: starEach es X.env := by rfl) (hpl : (backTo pos (starEach es X.env)).any (·.1) = false := by rfl) :
    PE X (.Call (.Name x p) (e :: es) [] pos) (tCall sp [] E t) := by
  obtain ⟨f, fd, F, hm, kp, b⟩ := c.ex
  exact pe_call F (hr.mono hk) hg hm kp b .nil hx ha hdb he hpl
/-- a def of the text: where it stands, its name -/
structure DefAt (K : PySem.W.Frag) (mg : Str → Option Value) (x : Str) (st : Stmt) (f : Addr) (fd : FuncData) (ps : List Str) : Prop where
  fn : Fun K x x st f fd
  mgf : mg x = some (.ref f)
  bi : Binds K fd ps []
theorem DefAt.mk' {CX : CXT} {k : Nat} {x : Str} {st : Stmt} {f : Addr} {fd : FuncData} {ps : List Str} {sp : Sp} (D : DefAt K mg x st f fd ps) (h : FnOk P w K mg base CX k f fd ps sp) : DefOk CX P w K mg base k x ps sp := ⟨f, fd, h, D.mgf, D.fn.kp, D.bi⟩
theorem scL : FnScope ["numerator", "denominator", "divisor"] ["numerator", "denominator"] (defScope sLow) := ⟨rfl, rfl, rfl, by decide +kernel, rfl, by decide +kernel, by decide +kernel⟩
theorem gcd_bits {n d : Int} {k : Nat} (h : 0 < d) (hb : d.natAbs < 2 ^ k) : (((Int.gcd n d : Nat) : Int)).natAbs < 2 ^ k := by
  have := gcd_le (n := n) h
  omega
theorem ok_low {f : Addr} {fd : FuncData} (F : Fun K "in_lowest_terms" "in_lowest_terms" sLow f fd) (G : DefOk CX0 P w K mg base 1 "greatest_common_divisor" ["first", "second"] spGcd) : FnOk P w K mg base CX0 2 f fd ["numerator", "denominator"] spLow := by
  refine F.ok scL (fun vs H Q E h => ?_) (fun cdv A outer s H vs Q E hr h => ⟨_, pss_cons (ps_set (i := 2) scL.nd rfl (Or.inl rfl) (pe_d G hr (by decide) rfl pass0 (pa_cons (pv 0) (pa_cons (pv 1) pa_nil))))
    (pss_one (ps_ret (pe_tup (pa_cons (pe_op op_fdivW (pv 0) (pv 2)) (pa_cons (pe_op op_fdivW (pv 1) (pv 2)) pa_nil))))), ?_⟩)
  · obtain ⟨n, d, rfl, _⟩ := h
    rfl
  · obtain ⟨n, d, rfl, hd, hb, k⟩ := h
    have gp := gcd_pos (n := n) hd
    have gb := gcd_bits (n := n) hd hb
    refine ⟨_, rfl, _, rfl, n, d, rfl, hd, ⟨_, rfl, _, rfl, _, _, rfl, rfl, wide_div gp gb (by decide) (by decide), _, rfl, _, rfl, _, _, rfl, rfl, wide_div gp gb (by decide) (by decide), by show 2 ≤ sizeLine; decide, fun p hp => ?_⟩⟩
    refine k _ p (same_upd hp) ?_
    show upd H p _ p = _
    rw [upd_same, low_num hd, low_den hd]
theorem scW : FnScope ["number"] ["number"] (defScope sWhole) := ⟨rfl, rfl, rfl, by decide +kernel, rfl, by decide +kernel, by decide +kernel⟩
theorem ok_whole {f : Addr} {fd : FuncData} (F : Fun K "whole" "whole" sWhole f fd) : FnOk P w K mg base CX0 1 f fd ["number"] spWhole := by
  refine F.ok scW (fun vs H Q E h => ?_) (fun cdv A outer s H vs Q E hr h => ⟨_, pss_one (ps_ret (pe_tup (pa_cons (pv 0) (pa_cons pe_int pa_nil)))), ?_⟩)
  · obtain ⟨n, rfl, _⟩ := h
    rfl
  · obtain ⟨n, rfl, k⟩ := h
    refine ⟨_, rfl, by show 2 ≤ sizeLine; decide, fun p hp => ?_⟩
    refine k _ p (same_upd hp) ?_
    show upd H p _ p = _
    rw [upd_same]
    rfl
theorem scAT : FnScope ["first", "factor", "second", "numerator"] ["first", "factor", "second"] (defScope sAddT) := ⟨rfl, rfl, rfl, by decide +kernel, rfl, by decide +kernel, by decide +kernel⟩
theorem at0 {x y : V} : atI [x, y] 0 = some x := atI_nat (xs := [x, y]) (j := 0) rfl
theorem at1 {x y : V} : atI [x, y] 1 = some y := atI_nat (xs := [x, y]) (j := 1) rfl
theorem fr_seq {H : Hp} {a : Addr} {q : Rat} (h : FrA H a q) : SqT K H a [.int q.num, .int (q.den : Int)] := SqT.of h
theorem Fit.num {k : Nat} {q : Rat} (h : Fit k q) : q.num.natAbs < 2 ^ k := h.1
theorem Fit.den {k : Nat} {q : Rat} (h : Fit k q) : ((q.den : Int)).natAbs < 2 ^ k := by
  have := h.2
  omega
theorem den_pos (q : Rat) : (0 : Int) < (q.den : Int) := by
  have := q.den_nz
  omega
theorem ok_addT {f : Addr} {fd : FuncData} (F : Fun K "add_times" "add_times" sAddT f fd) (G : DefOk CX0 P w K mg base 2 "in_lowest_terms" ["numerator", "denominator"] spLow) : FnOk P w K mg base CX0 3 f fd ["first", "factor", "second"] spAddT := by
  refine F.ok scAT (fun vs H Q E h => ?_) (fun cdv A outer s H vs Q E hr h => ⟨_, pss_cons (ps_set (i := 3) scAT.nd rfl (Or.inl rfl)
      (pe_op op_add (pe_op op_mulW (pe_ix ix_tup (pv 0) pe_int (fun _ _ => rfl)) (pe_ix ix_tup (pv 2) pe_int (fun _ _ => rfl)))
        (pe_op op_mulW (pe_op op_mulW (pv 1) (pe_ix ix_tup (pv 2) pe_int (fun _ _ => rfl))) (pe_ix ix_tup (pv 0) pe_int (fun _ _ => rfl)))))
    (pss_one (ps_ret (pe_d G hr (by decide) rfl pass0 (pa_cons (pv 3) (pa_cons (pe_op op_mulW (pe_ix ix_tup (pv 0) pe_int (fun _ _ => rfl)) (pe_ix ix_tup (pv 2) pe_int (fun _ _ => rfl))) pa_nil))))), ?_⟩)
  · obtain ⟨a, b, p, q, f, rfl, _⟩ := h
    rfl
  · obtain ⟨a, b, p, q, f, rfl, ha, hb, hp, hq, hf, k⟩ := h
    refine ⟨_, rfl, _, _, _, _, rfl, rfl, fr_seq ha, at0, _, rfl, _, _, _, _, rfl, rfl, fr_seq hb, at1, _, _, rfl, rfl, wide_mul hp.num hq.den (by decide) (by decide) (by decide),
      _, rfl, _, rfl, _, _, _, _, rfl, rfl, fr_seq hb, at0, _, _, rfl, rfl, wide_mul hf hq.num (by decide) (by decide) (by decide), _, rfl, _, _, _, _, rfl, rfl, fr_seq ha, at1, _, _, rfl, rfl, wide_mul (wide_lt hf hq.num) hp.den (by decide) (by decide) (by decide), _, _, rfl, rfl, ?_⟩
    have hpos : (0 : Int) < (p.den : Int) * (q.den : Int) := Int.mul_pos (den_pos p) (den_pos q)
    refine ⟨_, rfl, _, rfl, _, _, _, _, rfl, rfl, fr_seq ha, at1, _, rfl, _, _, _, _, rfl, rfl, fr_seq hb, at1, _, _, rfl, rfl, wide_mul hp.den hq.den (by decide) (by decide) (by decide), _, _, rfl, hpos, ?_, fun H' r s h => k H' r s ?_⟩
    · refine Nat.lt_of_lt_of_le (wide_lt hp.den hq.den) (Nat.pow_le_pow_right (by decide) (by decide))
    · rw [← add_times_is p q f]
      exact h
theorem scA : FnScope ["first", "second"] ["first", "second"] (defScope sAdd) := ⟨rfl, rfl, rfl, by decide +kernel, rfl, by decide +kernel, by decide +kernel⟩
theorem ok_add {f : Addr} {fd : FuncData} (F : Fun K "add" "add" sAdd f fd) (G : DefOk CX0 P w K mg base 3 "add_times" ["first", "factor", "second"] spAddT) : FnOk P w K mg base CX0 4 f fd ["first", "second"] spAdd := by
  refine F.ok scA (fun vs H Q E h => ?_) (fun cdv A outer s H vs Q E hr h => ⟨_, pss_one (ps_ret (pe_d G hr (by decide) rfl pass0 (pa_cons (pv 0) (pa_cons pe_int (pa_cons (pv 1) pa_nil))))), ?_⟩)
  · obtain ⟨a, b, p, q, rfl, _⟩ := h
    rfl
  · obtain ⟨a, b, p, q, rfl, ha, hb, hp, hq, k⟩ := h
    refine ⟨_, rfl, _, rfl, a, b, p, q, 1, rfl, ha, hb, hp, hq, by decide, fun H' r s h => k H' r s ?_⟩
    have e : (((1 : Int)) : Rat) * q = q := by grind
    rw [e] at h
    exact h
theorem scWm : FnScope ["weight", "first", "second", "numerator"] ["weight", "first", "second"] (defScope sWm) := ⟨rfl, rfl, rfl, by decide +kernel, rfl, by decide +kernel, by decide +kernel⟩
theorem ok_wm {f : Addr} {fd : FuncData} (F : Fun K "weighted_mean" "weighted_mean" sWm f fd) (G : DefOk CX0 P w K mg base 2 "in_lowest_terms" ["numerator", "denominator"] spLow) : FnOk P w K mg base CX0 3 f fd ["weight", "first", "second"] spWm := by
  refine F.ok scWm (fun vs H Q E h => ?_) (fun cdv A outer s H vs Q E hr h => ⟨_, pss_cons (ps_set (i := 3) scWm.nd rfl (Or.inl rfl)
      (pe_op op_add (pe_op op_mulW (pe_op op_mulW (pv 0) (pe_ix ix_tup (pv 1) pe_int (fun _ _ => rfl))) (pe_ix ix_tup (pv 2) pe_int (fun _ _ => rfl)))
        (pe_op op_mulW (pe_ix ix_tup (pv 2) pe_int (fun _ _ => rfl)) (pe_ix ix_tup (pv 1) pe_int (fun _ _ => rfl)))))
    (pss_one (ps_ret (pe_d G hr (by decide) rfl pass0 (pa_cons (pv 3) (pa_cons (pe_op op_mulW (pe_op op_mulW (pe_op op_add (pv 0) pe_int) (pe_ix ix_tup (pv 1) pe_int (fun _ _ => rfl))) (pe_ix ix_tup (pv 2) pe_int (fun _ _ => rfl))) pa_nil))))), ?_⟩)
  · obtain ⟨a, b, p, q, w, rfl, _⟩ := h
    rfl
  · obtain ⟨a, b, p, q, w, rfl, ha, hb, hp, hq, hf, k⟩ := h
    have hf0 : ((w : Int)).natAbs < 2 ^ 10 := by omega
    have hf1 : ((w : Int) + 1).natAbs < 2 ^ 11 := by omega
    refine ⟨_, rfl, _, rfl, _, _, _, _, rfl, rfl, fr_seq ha, at0, _, _, rfl, rfl, wide_mul hf0 hp.num (by decide) (by decide) (by decide), _, rfl, _, _, _, _, rfl, rfl, fr_seq hb, at1, _, _, rfl, rfl, wide_mul (wide_lt hf0 hp.num) hq.den (by decide) (by decide) (by decide),
      _, rfl, _, _, _, _, rfl, rfl, fr_seq hb, at0, _, rfl, _, _, _, _, rfl, rfl, fr_seq ha, at1, _, _, rfl, rfl, wide_mul hq.num hp.den (by decide) (by decide) (by decide), _, _, rfl, rfl, ?_⟩
    have hpos : (0 : Int) < ((w : Int) + 1) * (p.den : Int) * (q.den : Int) := Int.mul_pos (Int.mul_pos (by omega) (den_pos p)) (den_pos q)
    refine ⟨_, rfl, _, rfl, _, _, rfl, rfl, _, rfl, _, _, _, _, rfl, rfl, fr_seq ha, at1, _, _, rfl, rfl, wide_mul hf1 hp.den (by decide) (by decide) (by decide), _, rfl, _, _, _, _, rfl, rfl, fr_seq hb, at1, _, _, rfl, rfl, wide_mul (wide_lt hf1 hp.den) hq.den (by decide) (by decide) (by decide), _, _, rfl, hpos, ?_, fun H' r s h => k H' r s ?_⟩
    · refine Nat.lt_of_lt_of_le (wide_lt (wide_lt hf1 hp.den) hq.den) (Nat.pow_le_pow_right (by decide) (by decide))
    · rw [← weighted_is p q w]
      have e : (((w : Int) + 1) * (p.den : Int) * (q.den : Int)).toNat = (w + 1) * p.den * q.den := by
        rw [show ((w : Int) + 1) = ((w + 1 : Nat) : Int) by omega, ← Int.natCast_mul, ← Int.natCast_mul]
        rfl
      rw [e] at h
      exact h
end
end CF
namespace CF
open PySem PySem.Spec PyProof.Rows L2
/-- three lists walked together: their items, as they stand at that turn, in a tuple that is new -/
def Itz3 (K : PySem.W.Frag) (a b c : Addr) : It where
  go i H := ∃ (xs ys zs : List V) (x y z : V), SqL K H a xs ∧ SqL K H b ys ∧ SqL K H c zs ∧ xs[i]? = some x ∧ ys[i]? = some y ∧ zs[i]? = some z
  yld i H v H' := ∃ T x y z, v = .ref T ∧ H T = none ∧ H' = upd H T (.tup [x, y, z]) ∧ (∀ xs, SqL K H a xs → xs[i]? = some x) ∧ (∀ ys, SqL K H b ys → ys[i]? = some y) ∧ ∀ zs, SqL K H c zs → zs[i]? = some z
  stop i H := ∃ xs ys zs : List V, SqL K H a xs ∧ SqL K H b ys ∧ SqL K H c zs ∧ i = xs.length ∧ i ≤ ys.length ∧ i ≤ zs.length
/-- the six objects of such a zip, made at N and behind -/
def six (N : Addr) : List Addr := [N + 5, N + 3, N + 4, N, N + 1, N + 2]
theorem six_is {N d : Addr} (h : d ∈ six N) : ∃ k, k ≤ 5 ∧ d = N + k := by
  unfold six at h
  simp only [List.mem_cons, List.not_mem_nil, or_false] at h
  rcases h with e | e | e | e | e | e
  · exact ⟨5, by decide, e⟩
  · exact ⟨3, by decide, e⟩
  · exact ⟨4, by decide, e⟩
  · exact ⟨0, by decide, e⟩
  · exact ⟨1, by decide, e⟩
  · exact ⟨2, by decide, e⟩
theorem one_lt {N : Nat} {a : Addr} (h : a < N) : ∀ b ∈ [a], b < N := fun _ hb => List.mem_singleton.mp hb ▸ h
/-- how it stands at turn i -/
def Zip3At (N a b c : Addr) (i : Nat) (h : Heap) : Prop :=
  IsZip h (N + 5) (N + 3) (N + 4) .none ∧ IsTupOf3 h (N + 3) (.ref N) (.ref (N + 1)) (.ref (N + 2)) ∧ (∃ x y z, IsTupOf3 h (N + 4) x y z) ∧ h.IsListIter N a i ∧ h.IsListIter (N + 1) b i ∧ h.IsListIter (N + 2) c i
theorem turn_zip3 {P : Program} {w : World} {K : PySem.W.Frag} {elts : List Expr} {kk : Nat} {tpos : Pos} {a b c : Addr} (N : Nat) (la : a < N) (lb : b < N) (lc : c < N) : Turn P w K (.Tuple elts kk tpos) (Itz3 K a b c) (six N) (N + 5) (Zip3At N a b c) where
  mem := List.mem_cons_self
  obj := by
    rintro i h ⟨zp, src, ⟨_, _, _, out⟩, ⟨oa, ea, _, da⟩, ⟨ob, eb, _, db⟩, ⟨oc, ec, _, dc⟩⟩ d hd
    unfold six at hd
    simp only [List.mem_cons, List.not_mem_nil, or_false] at hd
    rcases hd with rfl | rfl | rfl | rfl | rfl | rfl
    · exact ⟨_, zp, fun _ e => nomatch e⟩
    · exact ⟨_, src, fun _ e => nomatch e⟩
    · exact ⟨_, out, fun _ e => nomatch e⟩
    · exact ⟨oa, ea, fun _ e => by rw [da] at e; cases e⟩
    · exact ⟨ob, eb, fun _ e => by rw [db] at e; cases e⟩
    · exact ⟨oc, ec, fun _ e => by rw [dc] at e; cases e⟩
  keep := by
    rintro i h h' ⟨zp, src, ⟨x, y, z, out⟩, ia, ib, ic⟩ keep
    have k : ∀ d ∈ six N, ∀ o, h.get? d = some o → h'.get? d = some o := fun d hd o e => keep d hd o e
    unfold six at k
    exact ⟨k _ (by simp) _ zp, k _ (by simp) _ src, ⟨x, y, z, k _ (by simp) _ out⟩, ia.at fun o e => k _ (by simp) o e, ib.at fun o e => k _ (by simp) o e, ic.at fun o e => k _ (by simp) o e⟩
  item := by
    rintro X rfl rfl rfl calm i pins s σ H E inv free ⟨zp, src, ⟨_, _, _, out⟩, ia, ib, ic⟩ ⟨xs, ys, zs, x, y, z, isA, isB, isC, ax, ay, az⟩
    obtain ⟨us, va, pa, _⟩ := inv.list isA
    obtain ⟨vs, vb, pb, _⟩ := inv.list isB
    obtain ⟨ws, vc, pc, _⟩ := inv.list isC
    obtain ⟨u, gu, ru⟩ := va.get ax
    obtain ⟨v, gv, rv⟩ := vb.get ay
    obtain ⟨t, gt, rt⟩ := vc.get az
    have top : N + 5 < s.heap.objs.size := Heap.lt_size zp
    have idle : X.A.in1.handled = Option.none := inv.ok.hd calm
    have apart := zip_sep3 (one_lt la) (one_lt lb) (one_lt lc)
    refine wpAny_pyNext_zipD3_item apart (Draws.list idle N a (Nat.ne_of_lt la) us.toArray) (Draws.list idle (N + 1) b (Nat.ne_of_lt (Nat.lt_add_right 1 lb)) vs.toArray) (Draws.list idle (N + 2) c (Nat.ne_of_lt (Nat.lt_add_right 2 lc)) ws.toArray)
      zp src out ⟨ia, pa.isList⟩ ⟨ib, pb.isList⟩ ⟨ic, pc.isList⟩ (by simpa using (List.getElem?_eq_some_iff.mp gu).1) (by simpa using (List.getElem?_eq_some_iff.mp gv).1) (by simpa using (List.getElem?_eq_some_iff.mp gt).1) ?_
    intro x1 x2 x3 h1 tk f1 f2 f3 zp1 out1 d1 d2 d3 new1 _ other1
    have g1 : x1 = u := Option.some.inj (f1.symm.trans (by simpa using gu))
    have g2 : x2 = v := Option.some.inj (f2.symm.trans (by simpa using gv))
    have g3 : x3 = t := Option.some.inj (f3.symm.trans (by simpa using gt))
    subst g1 g2 g3
    refine ⟨_, rfl, wpAny_letOwnedTupleGo_zip (s := { s with heap := h1, toks := tk }) zp1 fun h2 zp2 only2 => ?_⟩
    have new2 : h2.get? s.heap.objs.size = some { cls := .type "tuple", data := .seq #[x1, x2, x3] } := (only2.2 _ (Nat.ne_of_gt top)).trans new1
    have laid : ObjOk X.prog X.w (upd H s.heap.objs.size (.tup [x, y, z])) h2 s.heap.objs.size (.tup [x, y, z]) := ⟨(by decide : 3 ≤ 16777216), [x1, x2, x3], .cons ru (.cons rv (.cons rt .nil)), _, new2, rfl, _, rfl⟩
    have other2 : ∀ d o, d ∉ six N → s.heap.get? d = some o → h2.get? d = some o := fun d o hd e => by
      unfold six at hd
      simp only [List.mem_cons, List.not_mem_nil, or_false, not_or] at hd
      exact (only2.2 d hd.1).trans (other1 d o hd.1 hd.2.2.1 hd.2.2.2.1 hd.2.2.2.2.1 hd.2.2.2.2.2 e)
    have inv2 := inv.turnedNew (t' := tk) (ch := six N) other2 free (Nat.le_refl _) laid
    refine ⟨.ref s.heap.objs.size, _, inv2, rfl, ⟨_, x, y, z, rfl, inv.hok.fresh (Nat.le_refl _), rfl, fun l e => inv.list_inj e isA ▸ ax, fun l e => inv.list_inj e isB ▸ ay, fun l e => inv.list_inj e isC ▸ az⟩, ⟨zp2, ?_, ⟨x1, x2, x3, ?_⟩, ?_, ?_, ?_⟩, fun d hd => ?_⟩
    · exact (only2.2 _ apart.TIz).trans (other1 _ _ apart.TIz apart.TITO apart.TIi1 apart.TIi2 apart.TIi3 src)
    · exact (only2.2 _ apart.TOz).trans out1
    · exact d1.1.at fun o e => (only2.2 _ (show (N : Nat) ≠ N + 5 by omega)).trans e
    · exact d2.1.at fun o e => (only2.2 _ (show (N + 1 : Nat) ≠ N + 5 by omega)).trans e
    · exact d3.1.at fun o e => (only2.2 _ (show (N + 2 : Nat) ≠ N + 5 by omega)).trans e
    · obtain ⟨k, hk, rfl⟩ := six_is hd
      have below : (N + k : Nat) < s.heap.objs.size := Nat.lt_of_le_of_lt (Nat.add_le_add_left hk N) top
      rw [upd_ne (Nat.ne_of_lt below)]
      exact (free _ hd).1
  done := by
    rintro X rfl rfl rfl calm i pins s σ H E inv free ⟨zp, src, ⟨_, _, _, out⟩, ia, ib, ic⟩ ⟨xs, ys, zs, isA, isB, isC, ea, eb, ec⟩
    obtain ⟨us, va, pa, _⟩ := inv.list isA
    obtain ⟨vs, vb, pb, _⟩ := inv.list isB
    obtain ⟨ws, vc, pc, _⟩ := inv.list isC
    have la' := va.length
    have lb' := vb.length
    have lc' := vc.length
    have idle : X.A.in1.handled = Option.none := inv.ok.hd calm
    refine wpAny_pyNext_zipD3_end (zip_sep3 (one_lt la) (one_lt lb) (one_lt lc)) (Draws.list idle N a (Nat.ne_of_lt la) us.toArray) (Draws.list idle (N + 1) b (Nat.ne_of_lt (Nat.lt_add_right 1 lb)) vs.toArray) (Draws.list idle (N + 2) c (Nat.ne_of_lt (Nat.lt_add_right 2 lc)) ws.toArray)
      zp src out ⟨ia, pa.isList⟩ ⟨ib, pb.isList⟩ ⟨ic, pc.isList⟩ (by simp; omega) (by simp; omega) (by simp; omega) (Or.inl (by simp; omega)) fun h' tk other => ⟨rfl, inv.turnedL (t' := tk) (ch := six N) (fun d o hd e => ?_) free⟩
    unfold six at hd
    simp only [List.mem_cons, List.not_mem_nil, or_false, not_or] at hd
    exact other d o hd.1 hd.2.2.1 hd.2.2.2.1 hd.2.2.2.2.1 hd.2.2.2.2.2 e
  self := by
    rintro A i s Q E ⟨zp, _⟩ h
    exact wpAny_pyIter_zip zp h
def iZip3 (K : PySem.W.Frag) (ta : TA) : TI := fun σ H R => ta σ H fun vs H1 => ∃ a b c xs ys zs, vs = [.ref a, .ref b, .ref c] ∧ SqL K H1 a xs ∧ SqL K H1 b ys ∧ SqL K H1 c zs ∧ R (Itz3 K a b c) H1
theorem pi_zip3 {X : Cx} {e1 e2 e3 : Expr} {ta : TA} {p pos tpos : Pos} {elts : List Expr} {kk : Nat} (gl : Gl X "zip") (none : X.mg "zip" = none) (args : PA X [e1, e2, e3] ta)
    (st : starEach [e1, e2, e3] X.env = (false, eval e1 X.env) :: starEach [e2, e3] X.env := by rfl) (pl : (backTo pos (starEach [e2, e3] X.env)).any (·.1) = false := by rfl) :
    PI X (.Tuple elts kk tpos) (.Call (.Name "zip" p) [e1, e2, e3] [] pos) (iZip3 X.K ta) := by
  constructor
  intro pins s σ H R inv want
  refine Call_ (ld_blt inv gl none PyProof.Rows.boot_zip (PyProof.Rows.callWith_type1 (thn (args.run pos pins s σ H _ inv want) ?_) st pl))
  rintro us s1 ⟨vs, H1, inv1, rels, a, b, c, xs, ys, zs, rfl, isA, isB, isC, go⟩
  cases rels with
  | cons ra rels => cases rels with
    | cons rb rels => cases rels with
      | cons rc rels =>
        cases rels
        cases ra
        cases rb
        cases rc
        obtain ⟨us, _, pa, _⟩ := inv1.list isA
        obtain ⟨vs, _, pb, _⟩ := inv1.list isB
        obtain ⟨ws, _, pc, _⟩ := inv1.list isC
        refine zip_begins3 (begins_list a us.toArray) (begins_list b vs.toArray) (begins_list c ws.toArray) pa.isList pb.isList pc.isList fun h2 zp src out ia ib ic _ other => wpAny_pyIter_zip zp ?_
        refine ⟨s1.heap.objs.size + 5, six s1.heap.objs.size, _, _, H1, rfl, inv1.kept (t' := s1.toks) other, turn_zip3 s1.heap.objs.size pa.lt pb.lt pc.lt, ⟨zp, src, ⟨_, _, _, out⟩, ⟨_, ia, rfl, rfl⟩, ⟨_, ib, rfl, rfl⟩, ⟨_, ic, rfl, rfl⟩⟩, fun d hd => ?_, go⟩
        obtain ⟨k, _, rfl⟩ := six_is hd
        exact inv1.fpOk (Nat.le_add_right _ _) (inv1.hok.fresh (Nat.le_add_right _ _))
/-- a new tuple of the i-th of each -/
def YTri (xs ys zs : List V) : Nat → Hp → V → Hp → Prop := fun i H v H' => ∃ T x y z, v = .ref T ∧ H T = none ∧ H' = upd H T (.tup [x, y, z]) ∧ xs[i]? = some x ∧ ys[i]? = some y ∧ zs[i]? = some z
/-- as one of the walks that a for takes -/
theorem walk_zip3 {K : PySem.W.Frag} {a b c : Addr} {xs ys zs : List V} (l2 : xs.length = ys.length) (l3 : xs.length = zs.length) : Walk (Itz3 K a b c) xs.length (fun H => SqL K H a xs ∧ SqL K H b ys ∧ SqL K H c zs) (YTri xs ys zs) where
  goes i H lt := fun ⟨qa, qb, qc⟩ => ⟨xs, ys, zs, xs[i], ys[i], zs[i], qa, qb, qc, List.getElem?_eq_getElem lt, List.getElem?_eq_getElem _, List.getElem?_eq_getElem _⟩
  stops H := fun ⟨qa, qb, qc⟩ => ⟨xs, ys, zs, qa, qb, qc, rfl, Nat.le_of_eq l2, Nat.le_of_eq l3⟩
  yields := by
    rintro i H v H' _ ⟨qa, qb, qc⟩ ⟨T, x, y, z, e, free, e', fa, fb, fc⟩
    exact ⟨T, x, y, z, e, free, e', fa xs qa, fb ys qb, fc zs qc⟩
end CF
namespace CF
open PySem PySem.Spec PyProof.Rows L2
open PySem.W (Codec)
/-! heaps -/
/-- all that was tracked is as it was, but at S -/
def Keep (S : List Addr) (H H' : Hp) : Prop := ∀ b o, H b = some o → b ∉ S → H' b = some o
theorem Keep.refl (S : List Addr) (H : Hp) : Keep S H H := fun _ _ h _ => h
theorem Keep.trans {S : List Addr} {H H1 H2 : Hp} (a : Keep S H H1) (b : Keep S H1 H2) : Keep S H H2 := fun c o h n => b c o (a c o h n) n
theorem Keep.mono {S T : List Addr} {H H1 : Hp} (a : Keep S H H1) (h : ∀ b ∈ S, b ∈ T) : Keep T H H1 := fun c o e n => a c o e fun z => n (h c z)
theorem Keep.of_same {S : List Addr} {H H1 : Hp} (a : Same H H1) : Keep S H H1 := fun c o e _ => a c o e
theorem Keep.same {H H1 : Hp} (a : Keep [] H H1) : Same H H1 := fun c o e => a c o e (by simp)
theorem Keep.new {S : List Addr} {H : Hp} {p : Addr} {o : HO} (h : H p = none) : Keep S H (upd H p o) := .of_same (same_upd h)
theorem Keep.put {S : List Addr} {H : Hp} {p : Addr} {o : HO} (h : p ∈ S) : Keep S H (upd H p o) := fun b o' e n => by
  rw [upd_ne (fun z => n (by rw [z]; exact h))]
  exact e
/-- two lists of addresses, apart -/
def Apart (S T : List Addr) : Prop := ∀ b ∈ S, b ∉ T
theorem Apart.symm {S T : List Addr} (h : Apart S T) : Apart T S := fun b hb hc => h b hc hb
/-- the fractions at a list of values -/
def Frs (H : Hp) : List V → List Rat → Prop
  | [], [] => True
  | v :: vs, q :: qs => (∃ a, v = .ref a ∧ FrA H a q) ∧ Frs H vs qs
  | _, _ => False
theorem Frs.length {H : Hp} : ∀ {vs : List V} {qs : List Rat}, Frs H vs qs → vs.length = qs.length
  | [], [], _ => rfl
  | v :: vs, q :: qs, h => by
    rw [List.length_cons, List.length_cons, Frs.length h.2]
  | [], _ :: _, h => h.elim
  | _ :: _, [], h => h.elim
theorem Frs.mono {H H' : Hp} (k : ∀ a q, FrA H a q → FrA H' a q) : ∀ {vs : List V} {qs : List Rat}, Frs H vs qs → Frs H' vs qs
  | [], [], _ => trivial
  | v :: vs, q :: qs, h => ⟨let ⟨a, e, f⟩ := h.1; ⟨a, e, k a q f⟩, Frs.mono k h.2⟩
  | [], _ :: _, h => h.elim
  | _ :: _, [], h => h.elim
theorem Frs.get {H : Hp} : ∀ {vs : List V} {qs : List Rat} {i : Nat} {v : V} {q : Rat}, Frs H vs qs → vs[i]? = some v → qs[i]? = some q → ∃ a, v = .ref a ∧ FrA H a q
  | [], [], _, _, _, _, h, _ => by simp at h
  | v :: vs, q :: qs, 0, _, _, h, e1, e2 => by
    simp at e1 e2
    subst e1 e2
    exact h.1
  | v :: vs, q :: qs, i + 1, _, _, h, e1, e2 => by
    simp at e1 e2
    exact Frs.get h.2 e1 e2
  | [], _ :: _, _, _, _, h, _, _ => h.elim
  | _ :: _, [], _, _, _, h, _, _ => h.elim
theorem Frs.append {H : Hp} : ∀ {vs ws : List V} {qs rs : List Rat}, Frs H vs qs → Frs H ws rs → Frs H (vs ++ ws) (qs ++ rs)
  | [], _, [], _, _, h => h
  | v :: vs, _, q :: qs, _, h, h2 => ⟨h.1, Frs.append h.2 h2⟩
  | [], _, _ :: _, _, h, _ => h.elim
  | _ :: _, _, [], _, h, _ => h.elim
theorem Frs.set {H : Hp} {a : Addr} {q : Rat} (f : FrA H a q) : ∀ {vs : List V} {qs : List Rat} (i : Nat), Frs H vs qs → Frs H (vs.set i (.ref a)) (qs.set i q)
  | [], [], _, _ => trivial
  | v :: vs, p :: qs, 0, h => ⟨⟨a, rfl, f⟩, h.2⟩
  | v :: vs, p :: qs, i + 1, h => ⟨h.1, Frs.set f i h.2⟩
  | [], _ :: _, _, h => h.elim
  | _ :: _, [], _, h => h.elim
theorem Frs.one {H : Hp} {a : Addr} {q : Rat} (f : FrA H a q) : Frs H [.ref a] [q] := ⟨⟨a, rfl, f⟩, trivial⟩
theorem Frs.dropLast {H : Hp} : ∀ {vs : List V} {qs : List Rat}, Frs H vs qs → Frs H vs.dropLast qs.dropLast
  | [], [], _ => trivial
  | [v], [q], _ => trivial
  | v :: w :: vs, q :: r :: qs, h => ⟨h.1, Frs.dropLast (vs := w :: vs) (qs := r :: qs) h.2⟩
  | [v], _ :: _ :: _, h => h.2.elim
  | v :: w :: vs, [q], h => h.2.elim
  | [], _ :: _, h => h.elim
  | _ :: _, [], h => h.elim
theorem sqL_keep {K : PySem.W.Frag} {S : List Addr} {H H' : Hp} {b : Addr} {ys : List V} (k : Keep S H H') (n : b ∉ S) (h : SqL K H b ys) : SqL K H' b ys := by
  rcases h with (h | ⟨o, h⟩) | h
  · exact .inl (.inl (k _ _ h n))
  · exact .inl (.inr ⟨o, k _ _ h n⟩)
  · exact .inr h
theorem Keep.free {S : List Addr} {H H' : Hp} {l : Addr} (k : Keep S H H') (n : l ∉ S) (h : H' l = none) : H l = none := by
  cases q : H l with
  | none => rfl
  | some o =>
    rw [k l o q n] at h
    cases h
/-! a profile -/
def pF (lc lr lw : Addr) : List (Str × V) := [("rock_capacities", .ref lc), ("rock_temperatures", .ref lr), ("water_temperatures", .ref lw)]
def capV (cells : List Kqk1.Cell) : List V := cells.map fun c => .int (c.rockCapacity : Int)
/-- the profile object at p, its lists, and the cells that it tells -/
structure ProfL (C : Addr) (H : Hp) (p lc lr lw : Addr) (rs ws : List V) (cells : List Kqk1.Cell) : Prop where
  obj : ∃ dx, H p = some (.ins C dx (pF lc lr lw))
  caps : H lc = some (.lst (capV cells))
  rock : H lr = some (.lst rs)
  water : H lw = some (.lst ws)
  rq : Frs H rs (cells.map Kqk1.Cell.rock)
  wq : Frs H ws (cells.map Kqk1.Cell.water)
  cr : lc ≠ lr
  cw : lc ≠ lw
  rw' : lr ≠ lw
/-- the profile at p, whose objects that may change are fp -/
def Prof (C : Addr) (H : Hp) (p : Addr) (fp : List Addr) (cells : List Kqk1.Cell) : Prop := ∃ lc lr lw rs ws, fp = [p, lc, lr, lw] ∧ ProfL C H p lc lr lw rs ws cells
def isTup : HO → Bool
  | .tup _ => true
  | _ => false
/-- what may change is no tuple -/
theorem Prof.noTup {C : Addr} {H : Hp} {p : Addr} {fp : List Addr} {cells : List Kqk1.Cell} (h : Prof C H p fp cells) : ∀ b ∈ fp, ∃ o, H b = some o ∧ isTup o = false := by
  obtain ⟨lc, lr, lw, rs, ws, rfl, ⟨⟨dx, ho⟩, hc, hr, hw, _, _, _, _, _⟩⟩ := h
  intro b hb
  have e : b = p ∨ b = lc ∨ b = lr ∨ b = lw := by simpa using hb
  rcases e with rfl | rfl | rfl | rfl
  · exact ⟨_, ho, rfl⟩
  · exact ⟨_, hc, rfl⟩
  · exact ⟨_, hr, rfl⟩
  · exact ⟨_, hw, rfl⟩
theorem FrA.keep {S : List Addr} {H H' : Hp} {a : Addr} {q : Rat} (h : FrA H a q) (k : Keep S H H') (n : ∀ b ∈ S, ∀ o, H b = some o → isTup o = false) : FrA H' a q :=
  k _ _ h fun z => by
    have := n a z _ h
    cases this
theorem Prof.keep {C : Addr} {S : List Addr} {H H' : Hp} {p : Addr} {fp : List Addr} {cells : List Kqk1.Cell} (h : Prof C H p fp cells) (k : Keep S H H') (n : ∀ b ∈ S, ∀ o, H b = some o → isTup o = false) (ap : Apart fp S) : Prof C H' p fp cells := by
  obtain ⟨lc, lr, lw, rs, ws, rfl, ⟨⟨dx, ho⟩, hc, hr, hw, h5, h6, h7, h8, h9⟩⟩ := h
  refine ⟨lc, lr, lw, rs, ws, rfl, ⟨⟨dx, k _ _ ho (ap _ (by simp))⟩, k _ _ hc (ap _ (by simp)), k _ _ hr (ap _ (by simp)), k _ _ hw (ap _ (by simp)), h5.mono fun a q f => f.keep k n, h6.mono fun a q f => f.keep k n, h7, h8, h9⟩⟩
theorem Prof.same {C : Addr} {H H' : Hp} {p : Addr} {fp : List Addr} {cells : List Kqk1.Cell} (h : Prof C H p fp cells) (k : Same H H') : Prof C H' p fp cells := h.keep (S := []) (Keep.of_same k) (by simp) (fun _ _ => by simp)
theorem lk_here {k : Str} {v : V} {r : List (Str × V)} : List.lookup k ((k, v) :: r) = some v := by
  have e : (k == k) = true := beq_self_eq_true k
  simp only [List.lookup, e]
theorem lk_past {k g : Str} {v : V} {r : List (Str × V)} (h : (k == g) = false) : List.lookup k ((g, v) :: r) = List.lookup k r := by
  simp only [List.lookup, h]
theorem put_here {f : Str} {v x : V} {r : List (Str × V)} : putF f v ((f, x) :: r) = (f, v) :: r := if_pos rfl
theorem put_past {f g : Str} {v x : V} {r : List (Str × V)} (h : ¬ g = f) : putF f v ((g, x) :: r) = (g, x) :: putF f v r := if_neg h
section
variable {lc lr lw a : Addr}
theorem pF_c : (pF lc lr lw).lookup ("rock_capacities" : Str) = some (.ref lc) := lk_here
theorem pF_r : (pF lc lr lw).lookup ("rock_temperatures" : Str) = some (.ref lr) := (lk_past (by decide +kernel)).trans lk_here
theorem pF_w : (pF lc lr lw).lookup ("water_temperatures" : Str) = some (.ref lw) := (lk_past (by decide +kernel)).trans ((lk_past (by decide +kernel)).trans lk_here)
theorem pF_no {m : Str} (h1 : (m == ("rock_capacities" : Str)) = false) (h2 : (m == ("rock_temperatures" : Str)) = false) (h3 : (m == ("water_temperatures" : Str)) = false) : (pF lc lr lw).lookup m = none := (lk_past h1).trans ((lk_past h2).trans ((lk_past h3).trans rfl))
theorem pF_putr : putF "rock_temperatures" (.ref a) (pF lc lr lw) = pF lc a lw := (put_past (by decide +kernel)).trans (congrArg _ put_here)
theorem pF_putw : putF "water_temperatures" (.ref a) (pF lc lr lw) = pF lc lr a := (put_past (by decide +kernel)).trans (congrArg _ ((put_past (by decide +kernel)).trans (congrArg _ put_here)))
theorem pF_1 : putF "rock_capacities" (.ref lc) [] = ([("rock_capacities", .ref lc)] : List (Str × V)) := rfl
theorem pF_2 : putF "rock_temperatures" (.ref lr) ([("rock_capacities", .ref lc)] : List (Str × V)) = ([("rock_capacities", .ref lc), ("rock_temperatures", .ref lr)] : List (Str × V)) := (put_past (by decide +kernel)).trans rfl
theorem pF_3 : putF "water_temperatures" (.ref lw) ([("rock_capacities", .ref lc), ("rock_temperatures", .ref lr)] : List (Str × V)) = pF lc lr lw := (put_past (by decide +kernel)).trans (congrArg _ ((put_past (by decide +kernel)).trans rfl))
end
/-- what the top has written of Profile -/
structure PTxt (K : PySem.W.Frag) (mg : Str → Option Value) (C : Addr) : Prop where
  cl : Cls K C
  nC : NoAttr K C "rock_capacities"
  nR : NoAttr K C "rock_temperatures"
  nW : NoAttr K C "water_temperatures"
  gC : mg "Profile" = some (.ref C)
  gL : mg "list" = none
  gN : mg "len" = none
  gZ : mg "zip" = none
def spPInit (K : PySem.W.Frag) (C : Addr) : Sp := fun vs H Q _ => ∃ (p dx a b c : Addr) (xs ys zs : List V), vs = [.ref p, .ref a, .ref b, .ref c] ∧ H p = some (.ins C dx []) ∧ SqL K H a xs ∧ SqL K H b ys ∧ SqL K H c zs ∧ a ≠ p ∧ b ≠ p ∧ c ≠ p ∧
  ∀ H' lc lr lw, Keep [p] H H' → H' p = some (.ins C dx (pF lc lr lw)) → H' lc = some (.lst xs) → H' lr = some (.lst ys) → H' lw = some (.lst zs) → lc ≠ lr → lc ≠ lw → lr ≠ lw → H lc = none → H lr = none → H lw = none → Q .non H'
section
variable {P : Program} {w : World} {K : PySem.W.Frag} {mg : Str → Option Value} {base : Heap} {C : Addr}
abbrev sPInit : Stmt := inClass (top 21) 0
theorem scPI : FnScope ["self", "rock_capacities", "rock_temperatures", "water_temperatures"] ["self", "rock_capacities", "rock_temperatures", "water_temperatures"] (defScope sPInit) := ⟨rfl, rfl, rfl, by decide +kernel, rfl, by decide +kernel, by decide +kernel⟩
theorem ok_pinit {f : Addr} {fd : FuncData} (F : Fun K "__init__" "Profile.__init__" sPInit f fd) (T : PTxt K mg C) : FnOk P w K mg base CX0 1 f fd ["self", "rock_capacities", "rock_temperatures", "water_temperatures"] (spPInit K C) := by
  refine F.ok scPI (fun vs H Q E h => ?_) (fun cdv A outer s H vs Q E hr h => ⟨_, pss_cons (ps_fld (pv 0) (pe_callTy call_list_of rfl T.gL boot_list (pa_cons (pv 1) pa_nil)) rfl)
    (pss_cons (ps_fld (pv 0) (pe_callTy call_list_of rfl T.gL boot_list (pa_cons (pv 2) pa_nil)) rfl)
    (pss_one (ps_fld (pv 0) (pe_callTy call_list_of rfl T.gL boot_list (pa_cons (pv 3) pa_nil)) rfl))), ?_⟩)
  · obtain ⟨p, dx, a, b, c, xs, ys, zs, rfl, _⟩ := h
    rfl
  · obtain ⟨p, dx, a, b, c, xs, ys, zs, rfl, hp, ha, hb, hc, ap, bp, cp, k⟩ := h
    refine ⟨_, rfl, a, xs, rfl, .inl ha, fun l1 h1 => ⟨_, rfl, p, C, dx, _, rfl, (upd_ne (ne_of_none hp h1)).trans hp, T.cl, T.nC, by decide, ?_⟩⟩
    have k1 : Keep [p] H (upd (upd H l1 (.lst xs)) p (.ins C dx (putF "rock_capacities" (.ref l1) []))) := (Keep.new h1).trans (Keep.put (by simp))
    generalize e1 : upd (upd H l1 (.lst xs)) p (.ins C dx (putF "rock_capacities" (.ref l1) [])) = H1 at k1 ⊢
    have p1 : H1 p = some (.ins C dx ([("rock_capacities", .ref l1)] : List (Str × V))) := by rw [← e1]; exact upd_same
    have l1p : l1 ≠ p := (ne_of_none hp h1).symm
    have q1 : H1 l1 = some (.lst xs) := by rw [← e1, upd_ne l1p]; exact upd_same
    refine ⟨_, rfl, b, ys, rfl, .inl (sqL_keep k1 (by simpa using bp) hb), fun l2 h2 => ⟨_, rfl, p, C, dx, _, rfl, (upd_ne (ne_of_none p1 h2)).trans p1, T.cl, T.nR, by show 1 < 1000; decide, ?_⟩⟩
    rw [pF_2]
    have k2 : Keep [p] H1 (upd (upd H1 l2 (.lst ys)) p (.ins C dx ([("rock_capacities", .ref l1), ("rock_temperatures", .ref l2)] : List (Str × V)))) := (Keep.new h2).trans (Keep.put (by simp))
    generalize e2 : upd (upd H1 l2 (.lst ys)) p (.ins C dx ([("rock_capacities", .ref l1), ("rock_temperatures", .ref l2)] : List (Str × V))) = H2 at k2 ⊢
    have p2 : H2 p = some (.ins C dx ([("rock_capacities", .ref l1), ("rock_temperatures", .ref l2)] : List (Str × V))) := by rw [← e2]; exact upd_same
    have l2p : l2 ≠ p := (ne_of_none p1 h2).symm
    have q2 : H2 l2 = some (.lst ys) := by rw [← e2, upd_ne l2p]; exact upd_same
    have q12 : H2 l1 = some (.lst xs) := k2 _ _ q1 (by simpa using l1p)
    have k02 := k1.trans k2
    refine ⟨_, rfl, c, zs, rfl, .inl (sqL_keep k02 (by simpa using cp) hc), fun l3 h3 => ⟨_, rfl, p, C, dx, _, rfl, (upd_ne (ne_of_none p2 h3)).trans p2, T.cl, T.nW, by show 2 < 1000; decide, ?_⟩⟩
    rw [pF_3]
    have k3 : Keep [p] H2 (upd (upd H2 l3 (.lst zs)) p (.ins C dx (pF l1 l2 l3))) := (Keep.new h3).trans (Keep.put (by simp))
    have l3p : l3 ≠ p := (ne_of_none p2 h3).symm
    have l3p' : l3 ∉ [p] := by simpa using l3p
    have l2p' : l2 ∉ [p] := by simpa using l2p
    exact k _ l1 l2 l3 (k02.trans k3) upd_same (k3 _ _ q12 (by simpa using l1p)) (k3 _ _ q2 l2p') (by rw [upd_ne l3p]; exact upd_same) (ne_of_none q1 h2) (ne_of_none q12 h3) (ne_of_none q2 h3) h1 (k1.free l2p' h2) (k02.free l3p' h3)
end
end CF
namespace CF
open PySem PySem.Spec PyProof.Rows L2
open PySem.W (Codec)
section
/-- a method of the class at C -/
structure MetOk (CX : CXT) (P : Program) (w : World) (K : PySem.W.Frag) (mg : Str → Option Value) (base : Heap) (k : Nat) (C : Addr) (m : Str) (ps : List Str) (sp : Sp) : Prop where
  ex : ∃ (f : Addr) (fd : FuncData), Meth K C m f ∧ FnOk P w K mg base CX k f fd ps sp ∧ Binds K fd ps []
/-- the class x at C, made by its __init__ -/
structure MakOk (CX : CXT) (P : Program) (w : World) (K : PySem.W.Frag) (mg : Str → Option Value) (base : Heap) (k : Nat) (x : Str) (C : Addr) (ps : List Str) (sp : Sp) : Prop where
  ex : ∃ (f : Addr) (fd : FuncData), Mk K C f ∧ FnOk P w K mg base CX k f fd ps sp ∧ Binds K fd ps [] ∧ mg x = some (.ref C)
variable {X : Cx} {CX : CXT} {k j : Nat} {C : Addr} {x m : Str} {ps : List Str} {sp : Sp} {E : XK} {p pos apos : Pos} {o e : Expr} {es : List Expr} {ta : TE} {t : TA} {pl : Sem Bool}
theorem pe_m (c : MetOk CX X.prog X.w X.K X.mg X.base k C m ps sp) (cl : Cls X.K C) (hr : Room j X.A) (hk : k ≤ j) (hx : Passes CX X E) (he : PE X o ta) (ha : PA X (e :: es) t)
    (hst : starEach (e :: es) X.env = (false, eval e X.env) :: starEach es X.env := by rfl) (hpl : (backTo pos (starEach es X.env)).any (·.1) = false := by rfl)
    (ht : eval (.Call (.Attribute o m apos) (e :: es) [] pos) X.env = (do
      let ov ← eval o X.env
      standAt apos.atName
      let (f, first) ← holding [ov] (getMethod ov m pl)
      callWith pos f first (backTo pos (starEach (e :: es) X.env)) (backToKw pos (keywordEach [] X.env))) := by rfl) :
    PE X (.Call (.Attribute o m apos) (e :: es) [] pos) (tMeth C m sp [] E ta t) := by
  obtain ⟨f, fd, M, F, b⟩ := c.ex
  exact pe_meth he cl M F (hr.mono hk) b .nil hx ha hst hpl ht
theorem pe_m0' (c : MetOk CX X.prog X.w X.K X.mg X.base k C m ps sp) (cl : Cls X.K C) (hr : Room j X.A) (hk : k ≤ j) (hx : Passes CX X E) (he : PE X o ta)
    (ht : eval (.Call (.Attribute o m apos) [] [] pos) X.env = (do
      let ov ← eval o X.env
      standAt apos.atName
      let (f, first) ← holding [ov] (getMethod ov m pl)
      callWith pos f first (backTo pos (starEach [] X.env)) (backToKw pos (keywordEach [] X.env))) := by rfl) :
    PE X (.Call (.Attribute o m apos) [] [] pos) (tMeth C m sp [] E ta tNil) := by
  obtain ⟨f, fd, M, F, b⟩ := c.ex
  exact pe_meth0 he cl M F (hr.mono hk) b .nil hx ht
theorem pe_k (c : MakOk CX X.prog X.w X.K X.mg X.base k x C ps sp) (hr : Room j X.A) (hk : k + 1 ≤ j) (hg : Gl X x) (hx : Passes CX X E) (ha : PA X (e :: es) t)
    (hdb : (x == ("__debug__" : Str)) = false := by decide) (he : starEach (e :: es) X.env = (false, eval e X.env) :: starEach es X.env := by rfl) (hpl : (backTo pos (starEach es X.env)).any (·.1) = false := by rfl) :
    PE X (.Call (.Name x p) (e :: es) [] pos) (tMake C sp [] E t) := by
  obtain ⟨f, fd, M, F, b, hm⟩ := c.ex
  exact pe_make M F (hr.mono hk) hg hm b .nil hx ha hdb he hpl
theorem pe_k0 (c : MakOk CX X.prog X.w X.K X.mg X.base k x C ps sp) (hr : Room j X.A) (hk : k + 1 ≤ j) (hg : Gl X x) (hx : Passes CX X E)
    (hdb : (x == ("__debug__" : Str)) = false := by decide) :
    PE X (.Call (.Name x p) [] [] pos) (tMake C sp [] E tNil) := by
  obtain ⟨f, fd, M, F, b, hm⟩ := c.ex
  exact pe_make0 M F (hr.mono hk) hg hm b .nil hx hdb
end
end CF
namespace CF
open PySem PySem.Spec PyProof.Rows L2
open PySem.W (Codec)
abbrev sTwin : Stmt := inClass (top 21) 1
abbrev sCount : Stmt := inClass (top 21) 2
abbrev sSetT : Stmt := inClass (top 21) 3
abbrev sEq : Stmt := inClass (top 21) 4
abbrev sMove : Stmt := inClass (top 21) 5
abbrev sTemps : Stmt := inClass (top 21) 6
abbrev sHeat : Stmt := inClass (top 21) 7
def CellFit (c : Kqk1.Cell) : Prop := c.rockCapacity < 2 ^ 10 ∧ Fit 4400 c.rock ∧ Fit 4400 c.water
def CellsFit (cells : List Kqk1.Cell) : Prop := ∀ c ∈ cells, CellFit c
def spTwin (C : Addr) : Sp := fun vs H Q _ => ∃ p fp cells, vs = [.ref p] ∧ Prof C H p fp cells ∧ ∀ H' p' fp', Same H H' → Prof C H' p' fp' cells → (∀ b ∈ fp', H b = none) → Q (.ref p') H'
def spCount (C : Addr) : Sp := fun vs H Q _ => ∃ p fp cells, vs = [.ref p] ∧ Prof C H p fp cells ∧ Q (.int (cells.length : Int)) H
def spSetT (C : Addr) : Sp := fun vs H Q _ => ∃ p fp cells, ∃ (i : Nat) (a : Addr) (q : Rat), vs = [.ref p, .int (i : Int), .ref a] ∧ Prof C H p fp cells ∧ i < cells.length ∧ FrA H a q ∧
  ∀ H', Keep fp H H' → Prof C H' p fp (cells.set i { cells.getD i ⟨1, 0, 0⟩ with rock := q, water := q }) → Q .non H'
def spEq (C : Addr) : Sp := fun vs H Q _ => ∃ p fp cells, vs = [.ref p] ∧ Prof C H p fp cells ∧ CellsFit cells ∧ cells.length ≤ 1000 ∧
  ∀ H' fp', Keep fp H H' → Prof C H' p fp' (cells.map Kqk1.equilibrated) → (∀ b ∈ fp', b ∈ fp ∨ H b = none) → Q .non H'
def eqT (c : Kqk1.Cell) : Rat := ((c.rockCapacity : Rat) * c.rock + c.water) / ((c.rockCapacity + 1 : Nat) : Rat)
theorem eq_rock (cells : List Kqk1.Cell) : (cells.map Kqk1.equilibrated).map Kqk1.Cell.rock = cells.map eqT := by
  rw [List.map_map]
  rfl
theorem eq_water (cells : List Kqk1.Cell) : (cells.map Kqk1.equilibrated).map Kqk1.Cell.water = cells.map eqT := by
  rw [List.map_map]
  rfl
theorem eq_caps (cells : List Kqk1.Cell) : capV (cells.map Kqk1.equilibrated) = capV cells := by
  unfold capV
  rw [List.map_map]
  rfl
theorem take_more {α : Type} : ∀ {l : List α} {i : Nat} {x : α}, l[i]? = some x → l.take (i + 1) = l.take i ++ [x]
  | [], i, x, h => by simp at h
  | a :: l, 0, x, h => by
    have e : a = x := Option.some.inj h
    subst e
    rfl
  | a :: l, i + 1, x, h => by
    have ih := take_more (l := l) (i := i) (x := x) h
    show a :: l.take (i + 1) = a :: l.take i ++ [x]
    rw [ih]
    rfl
theorem map_at {α β : Type} {f : α → β} {l : List α} {i : Nat} {y : β} (h : (l.map f)[i]? = some y) : ∃ x, l[i]? = some x ∧ y = f x := by
  rw [List.getElem?_map] at h
  cases e : l[i]? with
  | none =>
    rw [e] at h
    cases h
  | some x =>
    rw [e] at h
    exact ⟨x, rfl, (Option.some.inj h).symm⟩
section
variable {P : Program} {w : World} {K : PySem.W.Frag} {mg : Str → Option Value} {base : Heap} {C : Addr}
theorem pF_len {a b c : Addr} : (pF a b c).length < 1000 := by show 3 < 1000; decide
theorem scTw : FnScope ["self"] ["self"] (defScope sTwin) := ⟨rfl, rfl, rfl, by decide +kernel, rfl, by decide +kernel, by decide +kernel⟩
theorem ok_twin {f : Addr} {fd : FuncData} (F : Fun K "twin" "Profile.twin" sTwin f fd) (T : PTxt K mg C)
    (M : MakOk CX0 P w K mg base 1 "Profile" C ["self", "rock_capacities", "rock_temperatures", "water_temperatures"] (spPInit K C)) : FnOk P w K mg base CX0 3 f fd ["self"] (spTwin C) := by
  refine F.ok scTw (fun vs H Q E h => ?_) (fun cdv A outer s H vs Q E hr h => ⟨_, pss_one (ps_ret (pe_k M hr (by decide) rfl pass0 (pa_cons (pe_fld (pv 0) rfl) (pa_cons (pe_fld (pv 0) rfl) (pa_cons (pe_fld (pv 0) rfl) pa_nil))))), ?_⟩)
  · obtain ⟨p, fp, cells, rfl, _⟩ := h
    rfl
  · obtain ⟨p, fp, cells, rfl, ⟨lc, lr, lw, rs, ws, rfl, ⟨⟨dx, ho⟩, hc, hr, hw, h5, h6, h7, h8, h9⟩⟩, k⟩ := h
    refine ⟨_, rfl, p, C, dx, _, _, rfl, ho, T.cl, T.nC, pF_c, _, rfl, p, C, dx, _, _, rfl, ho, T.cl, T.nR, pF_r, _, rfl, p, C, dx, _, _, rfl, ho, T.cl, T.nW, pF_w, ?_⟩
    intro x dx' nx nd ne
    have s0 : Same H (upd (upd H dx' (.own x)) x (.ins C dx' [])) := (same_upd nd).trans (same_upd (by rw [upd_ne ne.symm]; exact nx))
    refine ⟨x, dx', lc, lr, lw, _, _, _, rfl, upd_same, SqL.of (s0 _ _ hc), SqL.of (s0 _ _ hr), SqL.of (s0 _ _ hw), ne_of_none hc nx, ne_of_none hr nx, ne_of_none hw nx, ?_⟩
    intro H' l1 l2 l3 k1 hp' g1 g2 g3 n12 n13 n23 f1 f2 f3
    have s1 : Same H H' := fun b o e => k1 b o (s0 b o e) (by simpa using ne_of_none e nx)
    refine ⟨rfl, k H' x [x, l1, l2, l3] s1 ⟨l1, l2, l3, rs, ws, rfl, ⟨⟨dx', hp'⟩, g1, g2, g3, h5.mono fun a q f => s1 _ _ f, h6.mono fun a q f => s1 _ _ f, n12, n13, n23⟩⟩ fun b hb => ?_⟩
    have e : b = x ∨ b = l1 ∨ b = l2 ∨ b = l3 := by simpa using hb
    rcases e with rfl | rfl | rfl | rfl
    · exact nx
    · exact s0.free f1
    · exact s0.free f2
    · exact s0.free f3
theorem scCo : FnScope ["self"] ["self"] (defScope sCount) := ⟨rfl, rfl, rfl, by decide +kernel, rfl, by decide +kernel, by decide +kernel⟩
theorem ok_count {f : Addr} {fd : FuncData} (F : Fun K "cell_count" "Profile.cell_count" sCount f fd) (T : PTxt K mg C) : FnOk P w K mg base CX0 1 f fd ["self"] (spCount C) := by
  refine F.ok scCo (fun vs H Q E h => ?_) (fun cdv A outer s H vs Q E hr h => ⟨_, pss_one (ps_ret (pe_callB call_len_seq (by rfl) T.gN PySem.boot_len (pa_cons (pe_fld (pv 0) rfl) pa_nil))), ?_⟩)
  · obtain ⟨p, fp, cells, rfl, _⟩ := h
    rfl
  · obtain ⟨p, fp, cells, rfl, ⟨lc, lr, lw, rs, ws, rfl, ⟨⟨dx, ho⟩, hc, hr, hw, h5, h6, h7, h8, h9⟩⟩, k⟩ := h
    refine ⟨_, rfl, p, C, dx, _, _, rfl, ho, T.cl, T.nC, pF_c, ?_⟩
    refine ⟨lc, _, rfl, .inl (SqL.of hc), ?_⟩
    unfold capV
    rw [List.length_map]
    exact k
theorem scSe : FnScope ["self", "cell", "temperature"] ["self", "cell", "temperature"] (defScope sSetT) := ⟨rfl, rfl, rfl, by decide +kernel, rfl, by decide +kernel, by decide +kernel⟩
theorem ixN_nat {n i : Nat} (h : i < n) : ixN n (i : Int) = some i := by
  unfold ixN
  rw [if_pos (by omega), if_pos (by omega), Int.toNat_natCast]
theorem ok_sett {f : Addr} {fd : FuncData} (F : Fun K "set_temperature" "Profile.set_temperature" sSetT f fd) (T : PTxt K mg C) : FnOk P w K mg base CX0 1 f fd ["self", "cell", "temperature"] (spSetT C) := by
  refine F.ok scSe (fun vs H Q E h => ?_) (fun cdv A outer s H vs Q E hr h => ⟨_, pss_cons (ps_asg (pv 2) (pg_sub (pe_fld (pv 0) rfl) (pv 1) set_list)) (pss_one (ps_asg (pv 2) (pg_sub (pe_fld (pv 0) rfl) (pv 1) set_list))), ?_⟩)
  · obtain ⟨p, fp, cells, i, a, q, rfl, _⟩ := h
    rfl
  · obtain ⟨p, fp, cells, i, a, q, rfl, ⟨lc, lr, lw, rs, ws, rfl, ⟨⟨dx, ho⟩, hc, hr, hw, h5, h6, h7, h8, h9⟩⟩, hi, fa, k⟩ := h
    have l5 : rs.length = cells.length := by rw [h5.length, List.length_map]
    have l6 : ws.length = cells.length := by rw [h6.length, List.length_map]
    have np : p ≠ lr := ne_of ho hr (by intro z; cases z)
    have nw : lw ≠ lr := h9.symm
    refine ⟨_, rfl, _, rfl, p, C, dx, _, _, rfl, ho, T.cl, T.nR, pF_r, _, rfl, lr, rs, _, i, rfl, rfl, hr, ixN_nat (by omega), ?_⟩
    refine ⟨_, rfl, _, rfl, p, C, dx, _, _, rfl, (upd_ne np).trans ho, T.cl, T.nW, pF_w, _, rfl, lw, ws, _, i, rfl, rfl, (upd_ne nw).trans hw, ixN_nat (by omega), ?_⟩
    have k0 : Keep [p, lc, lr, lw] H (upd (upd H lr (.lst (rs.set i (.ref a)))) lw (.lst (ws.set i (.ref a)))) := (Keep.put (by simp)).trans (Keep.put (by simp))
    have tp : ∀ b ∈ [p, lc, lr, lw], ∀ o, H b = some o → isTup o = false := by
      intro b hb o e
      have e' : b = p ∨ b = lc ∨ b = lr ∨ b = lw := by simpa using hb
      rcases e' with rfl | rfl | rfl | rfl
      · rw [ho] at e; cases e; rfl
      · rw [hc] at e; cases e; rfl
      · rw [hr] at e; cases e; rfl
      · rw [hw] at e; cases e; rfl
    have np2 : p ≠ lw := ne_of ho hw (by intro z; cases z)
    refine k _ k0 ⟨lc, lr, lw, rs.set i (.ref a), ws.set i (.ref a), rfl, ⟨⟨dx, ?_⟩, ?_, ?_, upd_same, ?_, ?_, h7, h8, h9⟩⟩
    · rw [upd_ne np2, upd_ne np]; exact ho
    · rw [upd_ne h8, upd_ne h7, hc]
      unfold capV
      rw [List.map_set]
      congr 2
      refine (List.ext_getElem? fun j => ?_)
      rw [List.getElem?_set, List.getElem?_map]
      by_cases e : i = j
      · subst e
        rw [if_pos rfl]
        simp [hi]
      · rw [if_neg e]
    · rw [upd_ne h9]; exact upd_same
    · rw [List.map_set]
      exact (h5.mono fun a q f => f.keep k0 tp).set (fa.keep k0 tp) i
    · rw [List.map_set]
      exact (h6.mono fun a q f => f.keep k0 tp).set (fa.keep k0 tp) i
end
end CF
namespace CF
open PySem PySem.Spec PyProof.Rows L2
open PySem.W (Codec)
theorem frs_at {H : Hp} {f : Kqk1.Cell → Rat} {cells : List Kqk1.Cell} {vs : List V} {i : Nat} {v : V} {c : Kqk1.Cell} (h : Frs H vs (cells.map f)) (hv : vs[i]? = some v) (hc : cells[i]? = some c) : ∃ a, v = .ref a ∧ FrA H a (f c) :=
  h.get hv (by rw [List.getElem?_map, hc]; rfl)
section
variable {P : Program} {w : World} {K : PySem.W.Frag} {mg : Str → Option Value} {base : Heap} {C : Addr}
theorem scEq : FnScope ["self", "mixed", "capacity", "rock", "water"] ["self"] (defScope sEq) := ⟨rfl, rfl, rfl, by decide +kernel, rfl, by decide +kernel, by decide +kernel⟩
theorem ok_eq {f : Addr} {fd : FuncData} (F : Fun K "equilibrate" "Profile.equilibrate" sEq f fd) (T : PTxt K mg C) (G : DefOk CX0 P w K mg base 3 "weighted_mean" ["weight", "first", "second"] spWm) : FnOk P w K mg base CX0 4 f fd ["self"] (spEq C) := by
  refine F.ok scEq (fun vs H Q E h => ?_) (fun cdv A outer s H vs Q E hr h => ⟨_, pss_cons (ps_set (i := 1) scEq.nd rfl (Or.inl rfl) (pe_lst pa_nil))
    (pss_cons (ps_for PassesOwn.never rfl (pi_zip3 (by rfl) T.gZ (pa_cons (pe_fld (pv 0) rfl) (pa_cons (pe_fld (pv 0) rfl) (pa_cons (pe_fld (pv 0) rfl) pa_nil))))
        (pg_tup rfl (pgs_cons (pg_name (i := 2) scEq.nd rfl (Or.inl rfl)) (pgs_cons (pg_name (i := 3) scEq.nd rfl (Or.inl rfl)) (pgs_cons (pg_name (i := 4) scEq.nd rfl (Or.inl rfl)) pgs_nil))))
        (pss_one (ps_expr (pe_bm PySem.F.plainAttrs_list PySem.F.slot_list_append PySem.F.type_list_append mt_append (pv 1) (pa_cons (pe_d G hr (by decide) rfl pass0 (pa_cons (pv 2) (pa_cons (pv 3) (pa_cons (pv 4) pa_nil)))) pa_nil)))))
    (pss_cons (ps_fld (pv 0) (pv 1) rfl)
    (pss_one (ps_fld (pv 0) (pe_callTy call_list_of rfl T.gL boot_list (pa_cons (pv 1) pa_nil)) rfl)))), ?_⟩)
  · obtain ⟨p, fp, cells, rfl, _⟩ := h
    rfl
  · obtain ⟨p, fp, cells, rfl, ⟨lc, lr, lw, rs, ws, rfl, ⟨⟨dx, ho⟩, hc, hr', hw, h5, h6, h7, h8, h9⟩⟩, fit, small, k⟩ := h
    have l0 : (capV cells).length = cells.length := by unfold capV; rw [List.length_map]
    have l5 : rs.length = cells.length := by rw [h5.length, List.length_map]
    have l6 : ws.length = cells.length := by rw [h6.length, List.length_map]
    refine ⟨by show 0 ≤ sizeLine; decide, fun m nm => ?_⟩
    have s0 : Same H (upd H m (.lst [])) := same_upd nm
    refine ⟨_, rfl, p, C, dx, _, _, rfl, s0 _ _ ho, T.cl, T.nC, pF_c, _, rfl, p, C, dx, _, _, rfl, s0 _ _ ho, T.cl, T.nR, pF_r, _, rfl, p, C, dx, _, _, rfl, s0 _ _ ho, T.cl, T.nW, pF_w, lc, lr, lw, _, _, _, rfl, SqL.of (s0 _ _ hc), SqL.of (s0 _ _ hr'), SqL.of (s0 _ _ hw),
      for_it (walk_zip3 (K := K) (a := lc) (b := lr) (c := lw) (xs := capV cells) (ys := rs) (zs := ws) (by omega) (by omega)) (fun i σ H' => ∃ v2 v3 v4 acc, σ = [some (.ref p), some (.ref m), v2, v3, v4] ∧ Same H H' ∧ H' m = some (.lst acc) ∧ Frs H' acc ((cells.take i).map eqT)) ⟨none, none, none, [], rfl, s0, upd_same, trivial⟩
        (fun i σ H' _ ⟨_, _, _, _, _, s, _⟩ => ⟨SqL.of (s _ _ hc), SqL.of (s _ _ hr'), SqL.of (s _ _ hw)⟩) ?_ ?_⟩
    · rintro i _ σ H' _ _ ⟨v2, v3, v4, acc, rfl, s1, hm, hacc⟩ ⟨Tt, x, y, z, rfl, hT, rfl, hx, hy, hz⟩
      obtain ⟨c, hci, rfl⟩ := map_at hx
      obtain ⟨a1, rfl, f1⟩ := frs_at h5 hy hci
      obtain ⟨a2, rfl, f2⟩ := frs_at h6 hz hci
      have sT : Same H' (upd H' Tt (.tup [.int (c.rockCapacity : Int), .ref a1, .ref a2])) := same_upd hT
      have s2 := s1.trans sT
      have fc := fit c (List.mem_of_getElem? hci)
      have hil : i < cells.length := (List.getElem?_eq_some_iff.mp hci).1
      have la : acc.length = i := by
        rw [hacc.length, List.length_map, List.length_take]
        omega
      refine ⟨Tt, _, rfl, SqT.of upd_same, rfl, _, _, rfl, _, _, rfl, _, _, rfl, rfl, _, rfl, .inl ⟨rfl, _, .inl (.inl (sT _ _ hm))⟩, _, rfl, _, rfl, _, rfl, a1, a2, _, _, c.rockCapacity, rfl, f1.same s2, f2.same s2, fc.2.1, fc.2.2, fc.1, fun H2 r s3 fr => ?_⟩
      refine ⟨m, acc, _, rfl, rfl, s3 _ _ (sT _ _ hm), by show acc.length < 16777216; omega, ?_⟩
      have nr : r ≠ m := ne_of fr (s3 _ _ (sT _ _ hm)) (by intro z; cases z)
      have k3 : Keep [m] H2 (upd H2 m (.lst (acc ++ [.ref r]))) := Keep.put (by simp)
      have ntup : ∀ b ∈ [m], ∀ o, H2 b = some o → isTup o = false := by
        intro b hb o e
        have e' : b = m := by simpa using hb
        rw [e', s3 _ _ (sT _ _ hm)] at e
        cases e
        rfl
      refine ⟨_, _, _, _, rfl, fun b o e => k3 b o (s3 _ _ (s2 _ _ e)) (by simpa using ne_of_none e nm), upd_same, ?_⟩
      rw [take_more hci, List.map_append]
      exact Frs.append (hacc.mono fun a q f => (f.same (sT.trans s3)).keep k3 ntup) (Frs.one (fr.keep k3 ntup))
    · rintro σ H' ⟨v2, v3, v4, acc, rfl, s1, hm, hacc⟩
      rw [l0, List.take_length] at hacc
      refine ⟨_, rfl, _, rfl, p, C, dx, _, rfl, s1 _ _ ho, T.cl, T.nR, pF_len, ?_⟩
      rw [pF_putr]
      have mp : m ≠ p := (ne_of_none ho nm).symm
      have k1 : Keep [p] H' (upd H' p (.ins C dx (pF lc m lw))) := Keep.put (by simp)
      generalize e1 : upd H' p (.ins C dx (pF lc m lw)) = H1 at k1 ⊢
      have p1 : H1 p = some (.ins C dx (pF lc m lw)) := by rw [← e1]; exact upd_same
      have m1 : H1 m = some (.lst acc) := k1 _ _ hm (by simpa using mp)
      refine ⟨_, rfl, m, acc, rfl, .inl (SqL.of m1), fun l hl => ⟨_, rfl, p, C, dx, _, rfl, (upd_ne (ne_of_none p1 hl)).trans p1, T.cl, T.nW, pF_len, ?_⟩⟩
      rw [pF_putw]
      have lp : l ≠ p := (ne_of_none p1 hl).symm
      have lm : l ≠ m := (ne_of_none m1 hl).symm
      have k2 : Keep [p] H1 (upd (upd H1 l (.lst acc)) p (.ins C dx (pF lc m l))) := (Keep.new hl).trans (Keep.put (by simp))
      have ntup : ∀ b ∈ [p], ∀ o, H' b = some o → isTup o = false := by
        intro b hb o e
        have e' : b = p := by simpa using hb
        rw [e', s1 _ _ ho] at e
        cases e
        rfl
      have cp : lc ≠ p := ne_of hc ho (by intro z; cases z)
      have cm : lc ≠ m := ne_of_none hc nm
      have k12 := k1.trans k2
      have lfree : H l = none := s1.free (k1.free (by simpa using lp) hl)
      have hacc2 : Frs (upd (upd H1 l (.lst acc)) p (.ins C dx (pF lc m l))) acc (cells.map eqT) := hacc.mono fun a q f => f.keep k12 ntup
      refine k _ [p, lc, m, l] (fun b o e n => k12 b o (s1 _ _ e) (fun z => n (by simp at z; simp [z]))) ⟨lc, m, l, acc, acc, rfl, ⟨⟨dx, upd_same⟩, ?_, ?_, ?_, ?_, ?_, cm, ne_of_none hc lfree, lm.symm⟩⟩ fun b hb => ?_
      · rw [eq_caps]
        exact k12 _ _ (s1 _ _ hc) (by simpa using cp)
      · exact k2 _ _ m1 (by simpa using mp)
      · rw [upd_ne lp]
        exact upd_same
      · rw [eq_rock]
        exact hacc2
      · rw [eq_water]
        exact hacc2
      · have e : b = p ∨ b = lc ∨ b = m ∨ b = l := by simpa using hb
        rcases e with rfl | rfl | rfl | rfl
        · exact .inl (by simp)
        · exact .inl (by simp)
        · exact .inr nm
        · exact .inr lfree
end
end CF
namespace CF
open PySem PySem.Spec PyProof.Rows L2
open PySem.W (Codec)
/-- the water moved on by one cell -/
def shifted (inj : Rat) (cells : List Kqk1.Cell) : List Kqk1.Cell := (List.zip cells (inj :: cells.map Kqk1.Cell.water)).map fun p => { p.1 with water := p.2 }
theorem advanced_is (inj : Rat) (cells : List Kqk1.Cell) : Kqk1.advanced inj cells = (shifted inj cells).map Kqk1.equilibrated := by
  unfold Kqk1.advanced shifted
  rw [List.map_map]
  rfl
theorem zipw_rock : ∀ (cells : List Kqk1.Cell) (ws : List Rat), cells.length ≤ ws.length → ((List.zip cells ws).map fun p => ({ p.1 with water := p.2 } : Kqk1.Cell)).map Kqk1.Cell.rock = cells.map Kqk1.Cell.rock
  | [], _, _ => rfl
  | c :: r, [], h => by simp at h
  | c :: r, w :: ws, h => by
    have ih := zipw_rock r ws (by simpa using h)
    show c.rock :: _ = c.rock :: _
    exact congrArg _ ih
theorem zipw_caps : ∀ (cells : List Kqk1.Cell) (ws : List Rat), cells.length ≤ ws.length → capV ((List.zip cells ws).map fun p => ({ p.1 with water := p.2 } : Kqk1.Cell)) = capV cells
  | [], _, _ => rfl
  | c :: r, [], h => by simp at h
  | c :: r, w :: ws, h => by
    have ih := zipw_caps r ws (by simpa using h)
    show V.int _ :: _ = V.int _ :: _
    exact congrArg _ ih
theorem zipw_water : ∀ (cells : List Kqk1.Cell) (ws : List Rat), cells.length ≤ ws.length → ((List.zip cells ws).map fun p => ({ p.1 with water := p.2 } : Kqk1.Cell)).map Kqk1.Cell.water = ws.take cells.length
  | [], _, _ => rfl
  | c :: r, [], h => by simp at h
  | c :: r, w :: ws, h => by
    have ih := zipw_water r ws (by simpa using h)
    show w :: _ = w :: _
    exact congrArg _ ih
theorem len_w (inj : Rat) (cells : List Kqk1.Cell) : cells.length ≤ (inj :: cells.map Kqk1.Cell.water).length := by
  rw [List.length_cons, List.length_map]
  omega
theorem shifted_rock (inj : Rat) (cells : List Kqk1.Cell) : (shifted inj cells).map Kqk1.Cell.rock = cells.map Kqk1.Cell.rock := zipw_rock _ _ (len_w inj cells)
theorem shifted_caps (inj : Rat) (cells : List Kqk1.Cell) : capV (shifted inj cells) = capV cells := zipw_caps _ _ (len_w inj cells)
theorem shifted_water (inj : Rat) {cells : List Kqk1.Cell} (h : cells ≠ []) : (shifted inj cells).map Kqk1.Cell.water = inj :: (cells.map Kqk1.Cell.water).dropLast := by
  refine (zipw_water _ _ (len_w inj cells)).trans ?_
  cases cells with
  | nil => exact absurd rfl h
  | cons c r =>
    rw [List.length_cons, List.take_succ_cons, List.dropLast_eq_take, List.length_map, List.length_cons, Nat.add_sub_cancel]
theorem shifted_len (inj : Rat) (cells : List Kqk1.Cell) : (shifted inj cells).length = cells.length := by
  unfold shifted
  rw [List.length_map, List.length_zip, List.length_cons, List.length_map]
  omega
theorem shifted_fit {inj : Rat} {cells : List Kqk1.Cell} (fi : Fit 4400 inj) (h : CellsFit cells) : CellsFit (shifted inj cells) := by
  intro c hc
  unfold shifted at hc
  obtain ⟨⟨d, q⟩, hd, rfl⟩ := List.mem_map.mp hc
  have h1 := (List.of_mem_zip hd).1
  have h2 := (List.of_mem_zip hd).2
  refine ⟨(h d h1).1, (h d h1).2.1, ?_⟩
  show Fit 4400 q
  rcases List.mem_cons.mp h2 with e | e
  · rw [e]
    exact fi
  · obtain ⟨d', hd', rfl⟩ := List.mem_map.mp e
    exact (h d' hd').2.2
theorem outlet_at {cells : List Kqk1.Cell} (h : cells ≠ []) : (cells.map Kqk1.Cell.water)[cells.length - 1]? = some (Kqk1.outlet cells) := by
  rw [List.getElem?_map, ← List.getLast?_eq_getElem?]
  unfold Kqk1.outlet
  cases e : cells.getLast? with
  | none => exact absurd (List.getLast?_eq_none_iff.mp e) h
  | some c => rfl
theorem cut_last {xs : List V} (h : xs ≠ []) : cutV xs none (some (-1)) = xs.dropLast := by
  unfold cutV
  rw [List.dropLast_eq_take]
  have h0 : 0 < xs.length := List.length_pos_iff.mpr h
  show List.take ((if (-1 : Int) < 0 then (-1 + (xs.length : Int)).toNat else min (-1 : Int).toNat xs.length) - 0) (List.drop 0 xs) = _
  rw [if_pos (by decide), List.drop_zero, Nat.sub_zero]
  congr 1
  omega
theorem at_last {xs : List V} {v : V} (h : xs ≠ []) (e : xs[xs.length - 1]? = some v) : atI xs (-1) = some v := by
  have h0 : 0 < xs.length := List.length_pos_iff.mpr h
  unfold atI ixN
  rw [if_neg (by decide), if_pos (by omega)]
  show xs[(-1 + (xs.length : Int)).toNat]? = some v
  rw [show (-1 + (xs.length : Int)).toNat = xs.length - 1 by omega]
  exact e
def spMove (C : Addr) : Sp := fun vs H Q _ => ∃ p fp cells, ∃ (a : Addr) (inj : Rat), vs = [.ref p, .ref a] ∧ Prof C H p fp cells ∧ FrA H a inj ∧ cells ≠ [] ∧ CellsFit cells ∧ Fit 4400 inj ∧ cells.length ≤ 1000 ∧
  ∀ H' fp' r, Keep fp H H' → Prof C H' p fp' (Kqk1.advanced inj cells) → (∀ b ∈ fp', b ∈ fp ∨ H b = none) → FrA H' r (Kqk1.outlet cells) → Q (.ref r) H'
def spTemps (C : Addr) : Sp := fun vs H Q _ => ∃ p fp cells, vs = [.ref p] ∧ Prof C H p fp cells ∧ cells.length ≤ 1000 ∧
  ∀ H' l vs', Same H H' → H l = none → H' l = some (.lst vs') → Frs H' vs' (cells.map Kqk1.Cell.rock ++ cells.map Kqk1.Cell.water) → Q (.ref l) H'
section
variable {P : Program} {w : World} {K : PySem.W.Frag} {mg : Str → Option Value} {base : Heap} {C : Addr}
theorem scMo : FnScope ["self", "entering", "leaving"] ["self", "entering"] (defScope sMove) := ⟨rfl, rfl, rfl, by decide +kernel, rfl, by decide +kernel, by decide +kernel⟩
theorem ok_move {f : Addr} {fd : FuncData} (F : Fun K "move_on" "Profile.move_on" sMove f fd) (T : PTxt K mg C) (G : MetOk CX0 P w K mg base 4 C "equilibrate" ["self"] (spEq C)) : FnOk P w K mg base CX0 5 f fd ["self", "entering"] (spMove C) := by
  refine F.ok scMo (fun vs H Q E h => ?_) (fun cdv A outer s H vs Q E hr h => ⟨_, pss_cons (ps_set (i := 2) scMo.nd rfl (Or.inl rfl) (pe_ix ix_list (pe_fld (pv 0) rfl) (pe_un un_neg pe_int) (fun _ _ => rfl)))
    (pss_cons (ps_fld (pv 0) (pe_op op_cat (pe_lst (pa_cons (pv 1) pa_nil)) (pe_slice sl_list (pe_fld (pv 0) rfl) po_none (po_some (pe_un un_neg pe_int)))) rfl)
    (pss_cons (ps_expr (pe_m0' G T.cl hr (by decide) pass0 (pv 0)))
    (pss_one (ps_ret (pv 2))))), ?_⟩)
  · obtain ⟨p, fp, cells, a, inj, rfl, _⟩ := h
    rfl
  · obtain ⟨p, fp, cells, a, inj, rfl, ⟨lc, lr, lw, rs, ws, rfl, ⟨⟨dx, ho⟩, hc, hr', hw, h5, h6, h7, h8, h9⟩⟩, fa, hne, fit, fi, small, k⟩ := h
    have l6 : ws.length = cells.length := by rw [h6.length, List.length_map]
    have c0 : 0 < cells.length := List.length_pos_iff.mpr hne
    have wne : ws ≠ [] := by
      intro e
      rw [e] at l6
      simp at l6
      omega
    have hlt : ws.length - 1 < ws.length := by omega
    have hl := List.getElem?_eq_getElem hlt
    obtain ⟨r, er, fr⟩ := h6.get hl (by rw [l6]; exact outlet_at hne)
    rw [er] at hl
    refine ⟨_, rfl, p, C, dx, _, _, rfl, ho, T.cl, T.nW, pF_w, _, rfl, lw, ws, _, _, rfl, rfl, SqL.of hw, at_last wne hl, ?_⟩
    refine ⟨_, rfl, by show 1 ≤ sizeLine; decide, fun n1 hn1 => ?_⟩
    have s1 : Same H (upd H n1 (.lst [.ref a])) := same_upd hn1
    refine ⟨_, rfl, p, C, dx, _, _, rfl, s1 _ _ ho, T.cl, T.nW, pF_w, _, rfl, _, rfl, lw, ws, rfl, SqL.of (s1 _ _ hw), fun n2 hn2 => ?_⟩
    have s2 : Same (upd H n1 (.lst [.ref a])) (upd (upd H n1 (.lst [.ref a])) n2 (.lst (cutV ws none (some (-1))))) := same_upd hn2
    have n12 : n1 ≠ n2 := ne_of_none (show upd H n1 (.lst [.ref a]) n1 = some (.lst [.ref a]) from upd_same) hn2
    rw [cut_last wne] at s2 ⊢
    have sz : ([V.ref a] : List V).length + ws.dropLast.length ≤ sizeLine := by
      show 1 + ws.dropLast.length ≤ 16777216
      rw [List.length_dropLast]
      omega
    refine ⟨n1, n2, [.ref a], ws.dropLast, rfl, rfl, (upd_ne n12).trans upd_same, upd_same, sz, fun n3 hn3 => ?_⟩
    have s3 : Same (upd (upd H n1 (.lst [.ref a])) n2 (.lst ws.dropLast)) (upd (upd (upd H n1 (.lst [.ref a])) n2 (.lst ws.dropLast)) n3 (.lst ([.ref a] ++ ws.dropLast))) := same_upd hn3
    have g3 : upd (upd (upd H n1 (.lst [.ref a])) n2 (.lst ws.dropLast)) n3 (.lst ([.ref a] ++ ws.dropLast)) n3 = some (.lst ([.ref a] ++ ws.dropLast)) := upd_same
    have s03 := (s1.trans s2).trans s3
    have n3f : H n3 = none := (s1.trans s2).free hn3
    generalize upd (upd (upd H n1 (.lst [.ref a])) n2 (.lst ws.dropLast)) n3 (.lst ([.ref a] ++ ws.dropLast)) = H3 at g3 s03 ⊢
    refine ⟨_, rfl, p, C, dx, _, rfl, s03 _ _ ho, T.cl, T.nW, pF_len, ?_⟩
    rw [pF_putw]
    have k4 : Keep [p] H3 (upd H3 p (.ins C dx (pF lc lr n3))) := Keep.put (by simp)
    have n3p : n3 ≠ p := (ne_of_none ho n3f).symm
    have ntup : ∀ b ∈ [p], ∀ o, H3 b = some o → isTup o = false := by
      intro b hb o e
      have e' : b = p := by simpa using hb
      rw [e', s03 _ _ ho] at e
      cases e
      rfl
    have cp : lc ≠ p := ne_of hc ho (by intro z; cases z)
    have rp : lr ≠ p := ne_of hr' ho (by intro z; cases z)
    have cn : lc ≠ n3 := ne_of_none hc n3f
    have rn : lr ≠ n3 := ne_of_none hr' n3f
    have p4 : Prof C (upd H3 p (.ins C dx (pF lc lr n3))) p [p, lc, lr, n3] (shifted inj cells) := by
      refine ⟨lc, lr, n3, rs, _, rfl, ⟨⟨dx, upd_same⟩, ?_, ?_, k4 _ _ g3 (by simpa using n3p), ?_, ?_, h7, cn, rn⟩⟩
      · rw [shifted_caps]
        exact k4 _ _ (s03 _ _ hc) (by simpa using cp)
      · exact k4 _ _ (s03 _ _ hr') (by simpa using rp)
      · rw [shifted_rock]
        exact h5.mono fun a q f => (f.same s03).keep k4 ntup
      · rw [shifted_water inj hne]
        exact Frs.append (Frs.one ((fa.same s03).keep k4 ntup)) ((h6.mono fun a q f => (f.same s03).keep k4 ntup).dropLast)
    refine ⟨_, rfl, p, dx, _, rfl, upd_same, pF_no (by decide +kernel) (by decide +kernel) (by decide +kernel), ?_⟩
    refine ⟨p, [p, lc, lr, n3], shifted inj cells, rfl, p4, shifted_fit fi fit, by rw [shifted_len]; exact small, fun H5 fp' k5 pr5 sub5 => ?_⟩
    have nt4 : ∀ b ∈ [p, lc, lr, n3], ∀ o, (upd H3 p (.ins C dx (pF lc lr n3))) b = some o → isTup o = false := by
      intro b hb o e
      obtain ⟨o', e', t'⟩ := p4.noTup b hb
      rw [e] at e'
      cases e'
      exact t'
    refine ⟨_, rfl, ?_⟩
    refine k H5 fp' r ?_ ?_ ?_ ?_
    · intro b o e n
      refine k5 b o (k4 b o (s03 b o e) (fun z => n (by simp at z; simp [z]))) fun z => ?_
      have e' : b = p ∨ b = lc ∨ b = lr ∨ b = n3 := by simpa using z
      rcases e' with rfl | rfl | rfl | rfl
      · exact n (by simp)
      · exact n (by simp)
      · exact n (by simp)
      · rw [n3f] at e
        cases e
    · rw [advanced_is]
      exact pr5
    · intro b hb
      rcases sub5 b hb with h | h
      · have e' : b = p ∨ b = lc ∨ b = lr ∨ b = n3 := by simpa using h
        rcases e' with rfl | rfl | rfl | rfl
        · exact .inl (by simp)
        · exact .inl (by simp)
        · exact .inl (by simp)
        · exact .inr n3f
      · refine .inr ?_
        cases q : H b with
        | none => rfl
        | some o =>
          by_cases bp : b = p
          · subst bp
            rw [upd_same] at h
            cases h
          · rw [k4 b o (s03 b o q) (by simpa using bp)] at h
            cases h
    · exact ((fr.same s03).keep k4 ntup).keep k5 nt4
theorem scTe : FnScope ["self"] ["self"] (defScope sTemps) := ⟨rfl, rfl, rfl, by decide +kernel, rfl, by decide +kernel, by decide +kernel⟩
theorem ok_temps {f : Addr} {fd : FuncData} (F : Fun K "temperatures" "Profile.temperatures" sTemps f fd) (T : PTxt K mg C) : FnOk P w K mg base CX0 1 f fd ["self"] (spTemps C) := by
  refine F.ok scTe (fun vs H Q E h => ?_) (fun cdv A outer s H vs Q E hr h => ⟨_, pss_one (ps_ret (pe_op op_cat (pe_fld (pv 0) rfl) (pe_fld (pv 0) rfl))), ?_⟩)
  · obtain ⟨p, fp, cells, rfl, _⟩ := h
    rfl
  · obtain ⟨p, fp, cells, rfl, ⟨lc, lr, lw, rs, ws, rfl, ⟨⟨dx, ho⟩, hc, hr', hw, h5, h6, h7, h8, h9⟩⟩, small, k⟩ := h
    have l5 : rs.length = cells.length := by rw [h5.length, List.length_map]
    have l6 : ws.length = cells.length := by rw [h6.length, List.length_map]
    refine ⟨_, rfl, p, C, dx, _, _, rfl, ho, T.cl, T.nR, pF_r, _, rfl, p, C, dx, _, _, rfl, ho, T.cl, T.nW, pF_w, lr, lw, rs, ws, rfl, rfl, hr', hw, by show rs.length + ws.length ≤ 16777216; omega, fun l hl => ?_⟩
    have s1 : Same H (upd H l (.lst (rs ++ ws))) := same_upd hl
    exact k _ l _ s1 hl upd_same ((h5.append h6).mono fun a q f => f.same s1)
end
end CF
namespace CF
open PySem PySem.Spec PyProof.Rows L2
open PySem.W (Codec)
def sumR (l : List Rat) : Rat := l.foldl (fun x y => x + y) 0
theorem foldl_add (l : List Rat) : ∀ a : Rat, l.foldl (fun x y => x + y) a = a + sumR l := by
  induction l with
  | nil =>
    intro a
    show a = a + 0
    grind
  | cons x r ih =>
    intro a
    show r.foldl (fun x y => x + y) (a + x) = a + r.foldl (fun x y => x + y) (0 + x)
    rw [ih, ih]
    grind
theorem sumR_append (l m : List Rat) : sumR (l ++ m) = sumR l + sumR m := by
  unfold sumR
  rw [List.foldl_append, foldl_add]
  rfl
theorem sumR_one (a : Rat) : sumR [a] = a := by
  show 0 + a = a
  grind
theorem sumR_cons (a : Rat) (l : List Rat) : sumR (a :: l) = a + sumR l := by
  rw [show a :: l = [a] ++ l from rfl, sumR_append, sumR_one]
theorem sumR_more {α : Type} {f : α → Rat} {l : List α} {i : Nat} {x : α} (h : l[i]? = some x) : sumR ((l.take (i + 1)).map f) = sumR ((l.take i).map f) + f x := by
  rw [take_more h, List.map_append, sumR_append]
  show _ + sumR [f x] = _
  rw [sumR_one]
theorem cast_cast (n : Nat) : (((n : Int)) : Rat) = (n : Rat) := rfl
def crT (c : Kqk1.Cell) : Rat := (c.rockCapacity : Rat) * c.rock
theorem heat_is (cells : List Kqk1.Cell) : Kqk1.totalHeat cells = sumR (cells.map Kqk1.Cell.water) + sumR (cells.map crT) := by
  unfold Kqk1.totalHeat
  induction cells with
  | nil =>
    show (0 : Rat) = 0 + 0
    grind
  | cons c r ih =>
    rw [List.map_cons, List.map_cons, List.map_cons, sumR_cons, sumR_cons, List.foldl_cons, foldl_add]
    have ih' : sumR (r.map fun c => (c.rockCapacity : Rat) * c.rock + c.water) = sumR (r.map Kqk1.Cell.water) + sumR (r.map crT) := ih
    rw [ih']
    unfold crT
    grind
def HeatFit (cells : List Kqk1.Cell) : Prop := (∀ i, Fit 4400 (sumR ((cells.take i).map Kqk1.Cell.water))) ∧ ∀ i, Fit 4400 (sumR (cells.map Kqk1.Cell.water) + sumR ((cells.take i).map crT))
def spHeat (C : Addr) : Sp := fun vs H Q _ => ∃ p fp cells, vs = [.ref p] ∧ Prof C H p fp cells ∧ CellsFit cells ∧ HeatFit cells ∧
  ∀ H' r, Same H H' → FrA H' r (Kqk1.totalHeat cells) → Q (.ref r) H'
section
variable {P : Program} {w : World} {K : PySem.W.Frag} {mg : Str → Option Value} {base : Heap} {C : Addr}
theorem scHe : FnScope ["self", "heat", "water", "capacity", "rock"] ["self"] (defScope sHeat) := ⟨rfl, rfl, rfl, by decide +kernel, rfl, by decide +kernel, by decide +kernel⟩
theorem ok_heat {f : Addr} {fd : FuncData} (F : Fun K "total_heat" "Profile.total_heat" sHeat f fd) (T : PTxt K mg C) (GW : DefOk CX0 P w K mg base 1 "whole" ["number"] spWhole) (GA : DefOk CX0 P w K mg base 4 "add" ["first", "second"] spAdd)
    (GT : DefOk CX0 P w K mg base 3 "add_times" ["first", "factor", "second"] spAddT) : FnOk P w K mg base CX0 5 f fd ["self"] (spHeat C) := by
  refine F.ok scHe (fun vs H Q E h => ?_) (fun cdv A outer s H vs Q E hr h => ⟨_, pss_cons (ps_set (i := 1) scHe.nd rfl (Or.inl rfl) (pe_d GW hr (by decide) rfl pass0 (pa_cons pe_int pa_nil)))
    (pss_cons (ps_for PassesOwn.never rfl (pi_list (pe_fld (pv 0) rfl)) (pg_name (i := 2) scHe.nd rfl (Or.inl rfl))
        (pss_one (ps_set (i := 1) scHe.nd rfl (Or.inl rfl) (pe_d GA hr (by decide) rfl pass0 (pa_cons (pv 1) (pa_cons (pv 2) pa_nil))))))
    (pss_cons (ps_for PassesOwn.never rfl (pi_zip (by rfl) T.gZ (pa_cons (pe_fld (pv 0) rfl) (pa_cons (pe_fld (pv 0) rfl) pa_nil)))
        (pg_tup rfl (pgs_cons (pg_name (i := 3) scHe.nd rfl (Or.inl rfl)) (pgs_cons (pg_name (i := 4) scHe.nd rfl (Or.inl rfl)) pgs_nil)))
        (pss_one (ps_set (i := 1) scHe.nd rfl (Or.inl rfl) (pe_d GT hr (by decide) rfl pass0 (pa_cons (pv 1) (pa_cons (pv 3) (pa_cons (pv 4) pa_nil)))))))
    (pss_one (ps_ret (pv 1))))), ?_⟩)
  · obtain ⟨p, fp, cells, rfl, _⟩ := h
    rfl
  · obtain ⟨p, fp, cells, rfl, ⟨lc, lr, lw, rs, ws, rfl, ⟨⟨dx, ho⟩, hc, hr', hw, h5, h6, h7, h8, h9⟩⟩, fit, ⟨hfw, hfr⟩, k⟩ := h
    have l0 : (capV cells).length = cells.length := by unfold capV; rw [List.length_map]
    have l5 : rs.length = cells.length := by rw [h5.length, List.length_map]
    have l6 : ws.length = cells.length := by rw [h6.length, List.length_map]
    refine ⟨0, rfl, fun H0 r0 s0 f0 => ?_⟩
    refine ⟨_, rfl, p, C, dx, _, _, rfl, s0 _ _ ho, T.cl, T.nW, pF_w, lw, rfl, ⟨_, SqL.of (s0 _ _ hw)⟩, for_list (K := K) (a := lw) (xs := ws) (fun i σ H' => ∃ r v2, σ = [some (.ref p), some (.ref r), v2, none, none] ∧ Same H H' ∧ FrA H' r (sumR ((cells.take i).map Kqk1.Cell.water)))
      ⟨r0, none, rfl, s0, f0⟩ (fun i σ H' _ ⟨_, _, _, s, _⟩ => SqL.of (s _ _ hw)) ?_ ?_⟩
    · rintro i x σ H' hx ⟨r, v2, rfl, s1, fr⟩
      have hil : i < cells.length := by
        have := (List.getElem?_eq_some_iff.mp hx).1
        omega
      have hci : cells[i]? = some cells[i] := List.getElem?_eq_getElem hil
      obtain ⟨a, rfl, fa⟩ := frs_at h6 hx hci
      have fc := fit _ (List.mem_of_getElem? hci)
      refine ⟨_, rfl, _, rfl, r, a, _, _, rfl, fr, fa.same s1, hfw i, fc.2.2, fun H2 r2 s2 f2 => ⟨r2, _, rfl, s1.trans s2, ?_⟩⟩
      rw [sumR_more hci]
      exact f2
    · rintro σ H' ⟨r, v2, rfl, s1, fr⟩
      rw [l6, List.take_length] at fr
      refine ⟨_, rfl, p, C, dx, _, _, rfl, s1 _ _ ho, T.cl, T.nC, pF_c, _, rfl, p, C, dx, _, _, rfl, s1 _ _ ho, T.cl, T.nR, pF_r, lc, lr, _, _, rfl, SqL.of (s1 _ _ hc), SqL.of (s1 _ _ hr'),
        RZ.for_zipL (K := K) (xs := capV cells) (ys := rs) (by omega) (fun i σ H' => ∃ r v2 v3 v4, σ = [some (.ref p), some (.ref r), v2, v3, v4] ∧ Same H H' ∧ FrA H' r (sumR (cells.map Kqk1.Cell.water) + sumR ((cells.take i).map crT)))
        ⟨r, v2, none, none, rfl, s1, ?_⟩ (fun i σ H' ⟨_, _, _, _, _, s, _⟩ => ⟨SqL.of (s _ _ hc), SqL.of (s _ _ hr')⟩) ?_ ?_⟩
      · have e : sumR (cells.map Kqk1.Cell.water) + sumR ((cells.take 0).map crT) = sumR (cells.map Kqk1.Cell.water) := by
          show _ + (0 : Rat) = _
          grind
        rw [e]
        exact fr
      · rintro i x y Tt σ H2 hx hy ⟨r, v2, v3, v4, rfl, s2, fr⟩ hT
        obtain ⟨c, hci, rfl⟩ := map_at hx
        obtain ⟨a, rfl, fa⟩ := frs_at h5 hy hci
        have fc := fit c (List.mem_of_getElem? hci)
        have sT : Same H2 (upd H2 Tt (.tup [.int (c.rockCapacity : Int), .ref a])) := same_upd hT
        have s3 := s2.trans sT
        refine ⟨Tt, _, rfl, SqT.of upd_same, rfl, _, _, rfl, _, _, rfl, rfl, _, rfl, _, rfl, _, rfl, r, a, _, _, _, rfl, fr.same sT, fa.same s3, hfr i, fc.2.1, by have := fc.1; omega, fun H4 r4 s4 f4 => ⟨r4, _, _, _, rfl, s3.trans s4, ?_⟩⟩
        rw [sumR_more hci]
        have e : sumR (cells.map Kqk1.Cell.water) + (sumR ((cells.take i).map crT) + crT c) = sumR (cells.map Kqk1.Cell.water) + sumR ((cells.take i).map crT) + (((c.rockCapacity : Int)) : Rat) * c.rock := by
          rw [cast_cast, ← Rat.add_assoc]
          rfl
        rw [e]
        exact f4
      · rintro σ H2 ⟨r, v2, v3, v4, rfl, s2, fr⟩
        rw [l0, List.take_length] at fr
        refine ⟨_, rfl, k H2 r s2 ?_⟩
        rw [heat_is]
        exact fr
end
end CF
namespace CF
open PySem PySem.Spec PyProof.Rows L2
open PySem.W (Codec)
abbrev sRange : Stmt := top 31
abbrev sDen : Stmt := top 32
/-- what the top has written of an own exception's class -/
structure ExcTxt (K : PySem.W.Frag) (mg : Str → Option Value) (x : Str) (C : Addr) : Prop where
  g : mg x = some (.ref C)
  ex : PySem.W.excIn K C [.type "Exception", .type "BaseException", .type "object"] "Exception.__new__" = true
  kp : PySem.W.keepIn K (.ref C) = true
  sb : PySem.W.subIn K (.ref C) (.type "BaseException") = some true
  ty : PySem.W.typeIn K (.ref C) = some (.type "type")
/-- X(), X an own exception class without own __init__ -/
theorem pmk_own0 {X : Cx} {C : Addr} {bmB : List Value} {B newId initId : String} {x : Str} {p pos : Pos} (F : ExcBaseFacts B newId initId bmB) (q : PySem.W.excIn X.K C bmB newId = true) (gC : X.mg x = some (.ref C)) (kC : PySem.W.keepIn X.K (.ref C) = true) (r : Raises X (.ref C)) (hg : Gl X x)
    (hdb : (x == ("__debug__" : Str)) = false := by decide) : PMk X (.Call (.Name x p) [] [] pos) (fun _ H Q => Q (.ref C) none H) := by
  intro pins s σ H Q I h
  refine wpAny_Call_Name_kw (ld_glob I hg gC ?_ hdb)
  refine PySem.W.callWith_K0 I.kIn kC ?_
  show wpAny _ _ (call (.ref C) []) _ _ _
  obtain ⟨bm, N, nm, qn, bs, hdct, sn, sub, ab, col, dd, k0, k1, k2, k3, k5, mN, hC, hN, hni, T⟩ := exc_obj I.kIn q
  refine wpAny_call_exc_subT F T hC hN hni (fun h' e hm => ?_) (by show 0 ≤ sizeLine; rw [sizeLine_eq]; omega)
  exact mk_of I hm r h (I.hok.gone hm.new)
theorem ExcTxt.pmk {X : Cx} {C : Addr} {x : Str} {p pos : Pos} (T : ExcTxt X.K X.mg x C) (hg : Gl X x) (hdb : (x == ("__debug__" : Str)) = false := by decide) : PMk X (.Call (.Name x p) [] [] pos) (fun _ H Q => Q (.ref C) none H) :=
  pmk_own0 PySem.F.excBase_Exception T.ex T.g T.kp (raises_own T.sb T.ty) hg hdb
def spRange (CO : Addr) : Sp := fun vs H Q E => ∃ n lo hi : Int, vs = [.int n, .int lo, .int hi] ∧ (n < lo ∨ hi < n → E (.ref CO) none H) ∧ (lo ≤ n → n ≤ hi → Q .non H)
def small (q : Rat) : Bool := decide (q.den ≤ 10 ^ 40)
def spDen (CD : Addr) : Sp := fun vs H Q E => ∃ (l : Addr) (ws : List V) (qs : List Rat), vs = [.ref l] ∧ H l = some (.lst ws) ∧ Frs H ws qs ∧ (qs.all small = true → Q .non H) ∧ (qs.all small = false → E (.ref CD) none H)
section
variable {P : Program} {w : World} {K : PySem.W.Frag} {mg : Str → Option Value} {base : Heap}
theorem scRa : FnScope ["number", "least", "most"] ["number", "least", "most"] (defScope sRange) := ⟨rfl, rfl, rfl, by decide +kernel, rfl, by decide +kernel, by decide +kernel⟩
theorem ok_range {CO f : Addr} {fd : FuncData} (F : Fun K "check_range" "check_range" sRange f fd) (T : ExcTxt K mg "OutOfRange" CO) : FnOk P w K mg base (L2.CX P w) 1 f fd ["number", "least", "most"] (spRange CO) := by
  refine F.okX scRa (fun vs H Q E h => ?_) (fun cdv A outer s H vs Q E hr h => ⟨_, pss_one (ps_if (PW.pt (pw_or (pt_cmpR op_lt (pv 0) (pv 1) (nomark _)) (pw_or1 (pt_cmpR op_gt (pv 0) (pv 2) (nomark _)))))
    (pss_one (ps_raise rfl (takes_of rfl rfl rfl rfl) (T.pmk (by exact rfl)))) pss_nil), ?_⟩)
  · obtain ⟨n, lo, hi, rfl, _⟩ := h
    rfl
  · obtain ⟨n, lo, hi, rfl, he, hq⟩ := h
    refine ⟨_, rfl, _, rfl, _, _, rfl, rfl, _, rfl, ifB (fun c => ?_) (fun c => ?_)⟩
    · exact ifB (fun _ => he (.inl (of_decide_eq_true c))) (fun z => by cases z)
    · have c1 := of_decide_eq_false c
      refine ⟨_, rfl, _, rfl, _, _, rfl, rfl, _, rfl, ifB (fun c2 => ?_) (fun c2 => ?_)⟩
      · exact he (.inr (of_decide_eq_true c2))
      · have c3 := of_decide_eq_false c2
        exact hq (by omega) (by omega)
theorem scDe : FnScope ["fractions", "fraction"] ["fractions"] (defScope sDen) := ⟨rfl, rfl, rfl, by decide +kernel, rfl, by decide +kernel, by decide +kernel⟩
theorem all_take {p : Rat → Bool} {qs : List Rat} {i : Nat} {q : Rat} (h : qs[i]? = some q) : (qs.take (i + 1)).all p = ((qs.take i).all p && p q) := by
  rw [take_more h, List.all_append]
  simp
theorem ok_den {CD f : Addr} {fd : FuncData} (F : Fun K "check_denominators" "check_denominators" sDen f fd) (T : ExcTxt K mg "DenominatorTooLarge" CD) : FnOk P w K mg base (L2.CX P w) 1 f fd ["fractions"] (spDen CD) := by
  refine F.okX scDe (fun vs H Q E h => ?_) (fun cdv A outer s H vs Q E hr h => ⟨_, pss_one (ps_for (passes_of rfl) rfl (pi_list (pv 0)) (pg_name (i := 1) scDe.nd rfl (Or.inl rfl))
    (pss_one (ps_if (pt_cmpR op_gt (pe_ix ix_tup (pv 1) pe_int (fun _ _ => rfl)) (pe_op op_pow pe_int pe_int) (nomark _))
      (pss_one (ps_raise rfl (takes_of rfl rfl rfl rfl) (T.pmk (by exact rfl)))) pss_nil))), ?_⟩)
  · obtain ⟨l, ws, qs, rfl, _⟩ := h
    rfl
  · obtain ⟨l, ws, qs, rfl, hl, hf, hq, he⟩ := h
    refine ⟨_, rfl, l, rfl, ⟨_, SqL.of hl⟩, for_list (K := K) (a := l) (xs := ws) (fun i σ H' => ∃ v, σ = [some (.ref l), v] ∧ H' = H ∧ (qs.take i).all small = true)
      ⟨none, rfl, rfl, rfl⟩ (fun i σ H' _ ⟨_, _, e, _⟩ => by rw [e]; exact SqL.of hl) ?_ ?_⟩
    · rintro i x σ H' hx ⟨v, rfl, rfl, ha⟩
      have hi : i < qs.length := by
        have h1 := (List.getElem?_eq_some_iff.mp hx).1
        have h2 := hf.length
        omega
      have hqi : qs[i]? = some qs[i] := List.getElem?_eq_getElem hi
      obtain ⟨a, rfl, fa⟩ := hf.get hx hqi
      refine ⟨_, rfl, _, _, _, _, rfl, rfl, fr_seq fa, at1, 10, 40, rfl, rfl, ⟨by decide, by decide, by decide⟩, _, _, rfl, rfl, _, rfl, ifB (fun c => ?_) (fun c => ?_)⟩
      · have c1 := of_decide_eq_true c
        refine he ?_
        rw [List.all_eq_false]
        refine ⟨qs[i], List.getElem_mem hi, ?_⟩
        unfold small
        have c2 : ((10 : Int) ^ (40 : Int).toNat) < ((qs[i].den : Nat) : Int) := c1
        have e : ((10 : Int) ^ (40 : Int).toNat) = ((10 ^ 40 : Nat) : Int) := by decide
        rw [e] at c2
        have c3 : 10 ^ 40 < qs[i].den := by exact_mod_cast c2
        simp
        omega
      · have c1 := of_decide_eq_false c
        refine ⟨_, rfl, rfl, ?_⟩
        rw [all_take hqi, ha]
        unfold small
        have c2 : ¬ ((10 : Int) ^ (40 : Int).toNat) < ((qs[i].den : Nat) : Int) := c1
        have e : ((10 : Int) ^ (40 : Int).toNat) = ((10 ^ 40 : Nat) : Int) := by decide
        rw [e] at c2
        have c3 : ¬ 10 ^ 40 < qs[i].den := fun z => c2 (by exact_mod_cast z)
        simp
        omega
    · rintro σ H' ⟨v, rfl, rfl, ha⟩
      rw [hf.length, List.take_length] at ha
      exact hq ha
end
end CF
namespace CF
open PySem PySem.Spec PyProof.Rows L2
open PySem.W (Codec)
/-! the reservoir -/
def rF (p i a b : Addr) (n : Int) (sv : V) : List (Str × V) := [("profile", .ref p), ("injection_temperature", .ref i), ("injected_sum", .ref a), ("produced_sum", .ref b), ("produced_count", .int n), ("saved_profile", sv)]
/-- the saved profile: its value, its objects that may change -/
def Sav (CP : Addr) (H : Hp) (sv : V) (fs : List Addr) : Option (List Kqk1.Cell) → Prop
  | none => sv = .non ∧ fs = []
  | some l => ∃ s, sv = .ref s ∧ Prof CP H s fs l
structure ResL (C CP : Addr) (H : Hp) (r p i a b : Addr) (sv : V) (fp fs : List Addr) (R : Kqk1.Reservoir) : Prop where
  obj : ∃ dx, H r = some (.ins C dx (rF p i a b (R.producedCount : Int) sv))
  prof : Prof CP H p fp R.cells
  inj : FrA H i R.injection
  si : FrA H a R.injectedSum
  sp : FrA H b R.producedSum
  sav : Sav CP H sv fs R.saved
  ap : Apart fp fs
  rp : r ∉ fp
  rs : r ∉ fs
/-- the reservoir at r, whose objects that may change are fa -/
def Res (C CP : Addr) (H : Hp) (r : Addr) (fa : List Addr) (R : Kqk1.Reservoir) : Prop := ∃ p i a b sv fp fs, fa = r :: (fp ++ fs) ∧ ResL C CP H r p i a b sv fp fs R
theorem Sav.keep {CP : Addr} {S : List Addr} {H H' : Hp} {sv : V} {fs : List Addr} {o : Option (List Kqk1.Cell)} (h : Sav CP H sv fs o) (k : Keep S H H') (n : ∀ b ∈ S, ∀ o, H b = some o → isTup o = false) (ap : Apart fs S) : Sav CP H' sv fs o := by
  cases o with
  | none => exact h
  | some l =>
    obtain ⟨s, e, p⟩ := h
    exact ⟨s, e, p.keep k n ap⟩
theorem Sav.noTup {CP : Addr} {H : Hp} {sv : V} {fs : List Addr} {o : Option (List Kqk1.Cell)} (h : Sav CP H sv fs o) : ∀ b ∈ fs, ∃ o, H b = some o ∧ isTup o = false := by
  cases o with
  | none =>
    rw [h.2]
    simp
  | some l =>
    obtain ⟨s, e, p⟩ := h
    exact p.noTup
theorem Res.noTup {C CP : Addr} {H : Hp} {r : Addr} {fa : List Addr} {R : Kqk1.Reservoir} (h : Res C CP H r fa R) : ∀ b ∈ fa, ∃ o, H b = some o ∧ isTup o = false := by
  obtain ⟨p, i, a, b, sv, fp, fs, rfl, ⟨⟨dx, ho⟩, hp, hi, ha, hb, hs, ap, rp, rs⟩⟩ := h
  intro c hc
  rcases List.mem_cons.mp hc with rfl | hc
  · exact ⟨_, ho, rfl⟩
  · rcases List.mem_append.mp hc with hc | hc
    · exact hp.noTup c hc
    · exact hs.noTup c hc
theorem nt_of {H : Hp} {S : List Addr} (h : ∀ b ∈ S, ∃ o, H b = some o ∧ isTup o = false) : ∀ b ∈ S, ∀ o, H b = some o → isTup o = false := by
  intro b hb o e
  obtain ⟨o', e', t⟩ := h b hb
  rw [e] at e'
  cases e'
  exact t
theorem Res.keep {C CP : Addr} {S : List Addr} {H H' : Hp} {r : Addr} {fa : List Addr} {R : Kqk1.Reservoir} (h : Res C CP H r fa R) (k : Keep S H H') (n : ∀ b ∈ S, ∀ o, H b = some o → isTup o = false) (ap : Apart fa S) : Res C CP H' r fa R := by
  obtain ⟨p, i, a, b, sv, fp, fs, rfl, ⟨⟨dx, ho⟩, hp, hi, ha, hb, hs, ap2, rp, rs⟩⟩ := h
  exact ⟨p, i, a, b, sv, fp, fs, rfl, ⟨⟨dx, k _ _ ho (ap _ (by simp))⟩, hp.keep k n (fun c hc => ap _ (by simp [hc])), hi.keep k n, ha.keep k n, hb.keep k n, hs.keep k n (fun c hc => ap _ (by simp [hc])), ap2, rp, rs⟩⟩
theorem Res.same {C CP : Addr} {H H' : Hp} {r : Addr} {fa : List Addr} {R : Kqk1.Reservoir} (h : Res C CP H r fa R) (k : Same H H') : Res C CP H' r fa R := h.keep (S := []) (Keep.of_same k) (by simp) (fun _ _ => by simp)

section
variable {p i a b q : Addr} {n : Int} {sv v : V}
theorem rF_p : (rF p i a b n sv).lookup ("profile" : Str) = some (.ref p) := lk_here
theorem rF_i : (rF p i a b n sv).lookup ("injection_temperature" : Str) = some (.ref i) := (lk_past (by decide +kernel)).trans lk_here
theorem rF_a : (rF p i a b n sv).lookup ("injected_sum" : Str) = some (.ref a) := (lk_past (by decide +kernel)).trans ((lk_past (by decide +kernel)).trans lk_here)
theorem rF_b : (rF p i a b n sv).lookup ("produced_sum" : Str) = some (.ref b) := (lk_past (by decide +kernel)).trans ((lk_past (by decide +kernel)).trans ((lk_past (by decide +kernel)).trans lk_here))
theorem rF_n : (rF p i a b n sv).lookup ("produced_count" : Str) = some (.int n) := (lk_past (by decide +kernel)).trans ((lk_past (by decide +kernel)).trans ((lk_past (by decide +kernel)).trans ((lk_past (by decide +kernel)).trans lk_here)))
theorem rF_s : (rF p i a b n sv).lookup ("saved_profile" : Str) = some sv := (lk_past (by decide +kernel)).trans ((lk_past (by decide +kernel)).trans ((lk_past (by decide +kernel)).trans ((lk_past (by decide +kernel)).trans ((lk_past (by decide +kernel)).trans lk_here))))
theorem rF_no {m : Str} (h1 : (m == ("profile" : Str)) = false) (h2 : (m == ("injection_temperature" : Str)) = false) (h3 : (m == ("injected_sum" : Str)) = false) (h4 : (m == ("produced_sum" : Str)) = false) (h5 : (m == ("produced_count" : Str)) = false) (h6 : (m == ("saved_profile" : Str)) = false) :
    (rF p i a b n sv).lookup m = none := (lk_past h1).trans ((lk_past h2).trans ((lk_past h3).trans ((lk_past h4).trans ((lk_past h5).trans ((lk_past h6).trans rfl)))))
theorem rF_len : (rF p i a b n sv).length < 1000 := by show 6 < 1000; decide
theorem rF_putp : putF "profile" (.ref q) (rF p i a b n sv) = rF q i a b n sv := put_here
theorem rF_puti : putF "injection_temperature" (.ref q) (rF p i a b n sv) = rF p q a b n sv := (put_past (by decide +kernel)).trans (congrArg _ put_here)
theorem rF_puta : putF "injected_sum" (.ref q) (rF p i a b n sv) = rF p i q b n sv := (put_past (by decide +kernel)).trans (congrArg _ ((put_past (by decide +kernel)).trans (congrArg _ put_here)))
theorem rF_putb : putF "produced_sum" (.ref q) (rF p i a b n sv) = rF p i a q n sv := (put_past (by decide +kernel)).trans (congrArg _ ((put_past (by decide +kernel)).trans (congrArg _ ((put_past (by decide +kernel)).trans (congrArg _ put_here)))))
theorem rF_putn {m : Int} : putF "produced_count" (.int m) (rF p i a b n sv) = rF p i a b m sv := (put_past (by decide +kernel)).trans (congrArg _ ((put_past (by decide +kernel)).trans (congrArg _ ((put_past (by decide +kernel)).trans (congrArg _ ((put_past (by decide +kernel)).trans (congrArg _ put_here)))))))
theorem rF_puts : putF "saved_profile" v (rF p i a b n sv) = rF p i a b n v := (put_past (by decide +kernel)).trans (congrArg _ ((put_past (by decide +kernel)).trans (congrArg _ ((put_past (by decide +kernel)).trans (congrArg _ ((put_past (by decide +kernel)).trans (congrArg _ ((put_past (by decide +kernel)).trans (congrArg _ put_here)))))))))
end
def pre (l : List (Str × V)) : List (Str × V) := l
theorem rF_1 {p : Addr} : putF "profile" (.ref p) [] = ([("profile", .ref p)] : List (Str × V)) := rfl
theorem rF_2 {p i : Addr} : putF "injection_temperature" (.ref i) ([("profile", .ref p)] : List (Str × V)) = ([("profile", .ref p), ("injection_temperature", .ref i)] : List (Str × V)) := (put_past (by decide +kernel)).trans rfl
theorem rF_3 {p i a : Addr} : putF "injected_sum" (.ref a) ([("profile", .ref p), ("injection_temperature", .ref i)] : List (Str × V)) = ([("profile", .ref p), ("injection_temperature", .ref i), ("injected_sum", .ref a)] : List (Str × V)) := (put_past (by decide +kernel)).trans (congrArg _ ((put_past (by decide +kernel)).trans rfl))
theorem rF_4 {p i a b : Addr} : putF "produced_sum" (.ref b) ([("profile", .ref p), ("injection_temperature", .ref i), ("injected_sum", .ref a)] : List (Str × V)) = ([("profile", .ref p), ("injection_temperature", .ref i), ("injected_sum", .ref a), ("produced_sum", .ref b)] : List (Str × V)) := (put_past (by decide +kernel)).trans (congrArg _ ((put_past (by decide +kernel)).trans (congrArg _ ((put_past (by decide +kernel)).trans rfl))))
theorem rF_5 {p i a b : Addr} {n : Int} : putF "produced_count" (.int n) ([("profile", .ref p), ("injection_temperature", .ref i), ("injected_sum", .ref a), ("produced_sum", .ref b)] : List (Str × V)) = ([("profile", .ref p), ("injection_temperature", .ref i), ("injected_sum", .ref a), ("produced_sum", .ref b), ("produced_count", .int n)] : List (Str × V)) := (put_past (by decide +kernel)).trans (congrArg _ ((put_past (by decide +kernel)).trans (congrArg _ ((put_past (by decide +kernel)).trans (congrArg _ ((put_past (by decide +kernel)).trans rfl))))))
theorem rF_6 {p i a b : Addr} {n : Int} {v : V} : putF "saved_profile" v ([("profile", .ref p), ("injection_temperature", .ref i), ("injected_sum", .ref a), ("produced_sum", .ref b), ("produced_count", .int n)] : List (Str × V)) = rF p i a b n v := (put_past (by decide +kernel)).trans (congrArg _ ((put_past (by decide +kernel)).trans (congrArg _ ((put_past (by decide +kernel)).trans (congrArg _ ((put_past (by decide +kernel)).trans (congrArg _ ((put_past (by decide +kernel)).trans rfl))))))))
structure RTxt (K : PySem.W.Frag) (mg : Str → Option Value) (C : Addr) : Prop where
  cl : Cls K C
  nP : NoAttr K C "profile"
  nI : NoAttr K C "injection_temperature"
  nA : NoAttr K C "injected_sum"
  nB : NoAttr K C "produced_sum"
  nN : NoAttr K C "produced_count"
  nS : NoAttr K C "saved_profile"
  gC : mg "Reservoir" = some (.ref C)
  gR : mg "range" = none
  m1 : ∃ t, mg "MOST_CELLS" = some (.int 8 t)
  m2 : ∃ t, mg "MOST_ROCK_CAPACITY" = some (.int 20 t)
  m3 : ∃ t, mg "MOST_TEMPERATURE" = some (.int 300 t)
  m4 : ∃ t, mg "MOST_STEPS" = some (.int 20 t)
  m5 : ∃ t, mg "MOST_FORECAST" = some (.int 20 t)
  m6 : ∃ t, mg "FIRST_ROCK_CAPACITY" = some (.int 1 t)
  m7 : ∃ t, mg "FIRST_TEMPERATURE" = some (.int 100 t)
  m8 : ∃ t, mg "FIRST_INJECTION_TEMPERATURE" = some (.int 20 t)
theorem pe_k1 {X : Cx} {x : Str} {z : Int} {pos : Pos} (h : ∃ t, X.mg x = some (.int z t)) (hg : Gl X x) (hdb : (x == ("__debug__" : Str)) = false := by decide) : PE X (.Name x pos) (tC (.int z)) := by
  obtain ⟨t, e⟩ := h
  exact pe_glob hg e ⟨t, rfl⟩ hdb
end CF
namespace CF
open PySem PySem.Spec PyProof.Rows L2
open PySem.W (Codec)
abbrev sRInit : Stmt := inClass (top 33) 0
abbrev sRCount : Stmt := inClass (top 33) 1
abbrev sRCheck : Stmt := inClass (top 33) 2
abbrev sRCap : Stmt := inClass (top 33) 5
abbrev sRSet : Stmt := inClass (top 33) 6
abbrev sRAll : Stmt := inClass (top 33) 7
abbrev sRInj : Stmt := inClass (top 33) 8
abbrev sRAdv : Stmt := inClass (top 33) 9
abbrev sRMany : Stmt := inClass (top 33) 10
abbrev sREq : Stmt := inClass (top 33) 11
abbrev sRFore : Stmt := inClass (top 33) 12
abbrev sRGet : Stmt := inClass (top 33) 13
abbrev sRHeat : Stmt := inClass (top 33) 14
def fresh (n : Nat) : Kqk1.Reservoir := ⟨List.replicate n ⟨1, 100, 100⟩, 20, 0, 0, 0, none⟩
def spRInit (C CP CO : Addr) : Sp := fun vs H Q E => ∃ (r dx : Addr) (n : Nat), vs = [.ref r, .int (n : Int)] ∧ H r = some (.ins C dx []) ∧ (n < 1 ∨ 8 < n → E (.ref CO) none H) ∧
  (1 ≤ n → n ≤ 8 → ∀ H' fa, Keep [r] H H' → Res C CP H' r fa (fresh n) → (∀ b ∈ fa, b = r ∨ H b = none) → Q .non H')
theorem Frs.rep {H : Hp} {a : Addr} {q : Rat} (f : FrA H a q) : ∀ n : Nat, Frs H (List.replicate n (.ref a)) (List.replicate n q)
  | 0 => trivial
  | n + 1 => ⟨⟨a, rfl, f⟩, Frs.rep f n⟩
theorem rep_flat {v : V} : ∀ n : Nat, (List.replicate n [v]).flatten = List.replicate n v
  | 0 => rfl
  | n + 1 => by
    rw [List.replicate_succ, List.flatten_cons, rep_flat n]
    rfl
section
variable {P : Program} {w : World} {K : PySem.W.Frag} {mg : Str → Option Value} {base : Heap} {C CP CO : Addr}
theorem passE {X : Cx} {E : XK} (tk : Takes X (fun cls d _ H => E cls d H)) : Passes (L2.CX X.prog X.w) X E := passes_call tk (fun _ _ _ _ h => h)
theorem scRI : FnScope ["self", "cell_count", "temperatures"] ["self", "cell_count"] (defScope sRInit) := ⟨rfl, rfl, rfl, by decide +kernel, rfl, by decide +kernel, by decide +kernel⟩
theorem ok_rinit {f : Addr} {fd : FuncData} (F : Fun K "__init__" "Reservoir.__init__" sRInit f fd) (T : RTxt K mg C) (GR : DefOk (L2.CX P w) P w K mg base 1 "check_range" ["number", "least", "most"] (spRange CO)) (GW : DefOk CX0 P w K mg base 1 "whole" ["number"] spWhole)
    (M : MakOk CX0 P w K mg base 1 "Profile" CP ["self", "rock_capacities", "rock_temperatures", "water_temperatures"] (spPInit K CP)) : FnOk P w K mg base (L2.CX P w) 3 f fd ["self", "cell_count"] (spRInit C CP CO) := by
  refine F.okX scRI (fun vs H Q E h => ?_) (fun cdv A outer s H vs Q E hr h => ⟨_, pss_cons (ps_expr (pe_d GR hr (by decide) rfl (passE (takes_of rfl rfl rfl rfl)) (pa_cons (pv 1) (pa_cons pe_int (pa_cons (pe_k1 T.m1 rfl) pa_nil)))))
    (pss_cons (ps_set (i := 2) scRI.nd rfl (Or.inl rfl) (pe_op op_rep (pe_lst (pa_cons (pe_d GW hr (by decide) rfl pass0 (pa_cons (pe_k1 T.m7 rfl) pa_nil)) pa_nil)) (pv 1)))
    (pss_cons (ps_fld (pv 0) (pe_k M hr (by decide) rfl pass0 (pa_cons (pe_op op_rep (pe_lst (pa_cons (pe_k1 T.m6 rfl) pa_nil)) (pv 1)) (pa_cons (pv 2) (pa_cons (pv 2) pa_nil)))) rfl)
    (pss_cons (ps_fld (pv 0) (pe_d GW hr (by decide) rfl pass0 (pa_cons (pe_k1 T.m8 rfl) pa_nil)) rfl)
    (pss_cons (ps_fld (pv 0) (pe_d GW hr (by decide) rfl pass0 (pa_cons pe_int pa_nil)) rfl)
    (pss_cons (ps_fld (pv 0) (pe_d GW hr (by decide) rfl pass0 (pa_cons pe_int pa_nil)) rfl)
    (pss_cons (ps_fld (pv 0) pe_int rfl)
    (pss_one (ps_fld (pv 0) pe_non rfl)))))))), ?_⟩)
  · obtain ⟨r, dx, n, rfl, _⟩ := h
    rfl
  · obtain ⟨r, dx, n, rfl, ho, he, k⟩ := h
    refine ⟨_, rfl, (n : Int), 1, 8, rfl, fun c => he (by omega), fun c1 c2 => ?_⟩
    have n1 : 1 ≤ n := by omega
    have n8 : n ≤ 8 := by omega
    have n62 : (n : Int) < 2 ^ 63 := by omega
    -- temperatures = [whole(100)] * cell_count
    refine ⟨100, rfl, fun H1 a1 s1 f1 => ⟨by show 1 ≤ sizeLine; decide, fun l0 hl0 => ⟨_, rfl, l0, (n : Int), [.ref a1], rfl, rfl, upd_same, by omega, n62, by show 1 * (n : Int).toNat ≤ 16777216; omega, fun l1 hl1 => ?_⟩⟩⟩
    rw [Int.toNat_natCast, rep_flat]
    have sA : Same H1 (upd (upd H1 l0 (.lst [.ref a1])) l1 (.lst (List.replicate n (.ref a1)))) := (same_upd hl0).trans (same_upd hl1)
    have gA : (upd (upd H1 l0 (.lst [.ref a1])) l1 (.lst (List.replicate n (.ref a1)))) l1 = some (.lst (List.replicate n (.ref a1))) := upd_same
    have s2 := s1.trans sA
    have f2 := f1.same sA
    have l1f : H l1 = none := (s1.trans (same_upd hl0)).free hl1
    generalize (upd (upd H1 l0 (.lst [.ref a1])) l1 (.lst (List.replicate n (.ref a1)))) = H2 at gA s2 f2 ⊢
    -- Profile([1] * cell_count, temperatures, temperatures)
    refine ⟨by show 1 ≤ sizeLine; decide, fun l2 hl2 => ⟨_, rfl, l2, (n : Int), [.int 1], rfl, rfl, upd_same, by omega, n62, by show 1 * (n : Int).toNat ≤ 16777216; omega, fun l3 hl3 => ?_⟩⟩
    rw [Int.toNat_natCast, rep_flat]
    have sB : Same H2 (upd (upd H2 l2 (.lst [.int 1])) l3 (.lst (List.replicate n (.int 1)))) := (same_upd hl2).trans (same_upd hl3)
    have gB : (upd (upd H2 l2 (.lst [.int 1])) l3 (.lst (List.replicate n (.int 1)))) l3 = some (.lst (List.replicate n (.int 1))) := upd_same
    have gB1 := sB _ _ gA
    have s3 := s2.trans sB
    have f3 := f2.same sB
    generalize (upd (upd H2 l2 (.lst [.int 1])) l3 (.lst (List.replicate n (.int 1)))) = H3 at gB gB1 s3 f3 ⊢
    refine ⟨_, rfl, _, rfl, ?_⟩
    intro x dx' nx nd ne
    have sC : Same H3 (upd (upd H3 dx' (.own x)) x (.ins CP dx' [])) := (same_upd nd).trans (same_upd (by rw [upd_ne ne.symm]; exact nx))
    refine ⟨x, dx', l3, l1, l1, _, _, _, rfl, upd_same, SqL.of (sC _ _ gB), SqL.of (sC _ _ gB1), SqL.of (sC _ _ gB1), ne_of_none gB nx, ne_of_none gB1 nx, ne_of_none gB1 nx, ?_⟩
    intro H4 c1' c2' c3' k4 hp4 g1 g2 g3 n12 n13 n23 q1 q2 q3
    have s4 : Same H H4 := fun b o e => k4 b o (sC b o (s3 b o e)) (by simpa using ne_of_none (s3 b o e) nx)
    have f4 : FrA H4 a1 ((100 : Int) : Rat) := k4 _ _ (sC _ _ f3) (by simpa using ne_of_none f3 nx)
    have xf : H x = none := s3.free nx
    have q1' : H c1' = none := (s3.trans sC).free q1
    have q2' : H c2' = none := (s3.trans sC).free q2
    have q3' : H c3' = none := (s3.trans sC).free q3
    have pr4 : Prof CP H4 x [x, c1', c2', c3'] (List.replicate n ⟨1, 100, 100⟩) := by
      refine ⟨c1', c2', c3', _, _, rfl, ⟨⟨dx', hp4⟩, ?_, g2, g3, ?_, ?_, n12, n13, n23⟩⟩
      · rw [g1]
        unfold capV
        rw [List.map_replicate]
        rfl
      · rw [List.map_replicate]
        exact Frs.rep f4 n
      · rw [List.map_replicate]
        exact Frs.rep f4 n
    -- the fields
    have xr : x ≠ r := (ne_of_none ho xf).symm
    refine ⟨rfl, _, rfl, r, C, dx, _, rfl, s4 _ _ ho, T.cl, T.nP, by show 0 < 1000; decide, ?_⟩
    rw [rF_1]
    have nr : ∀ (H' : Hp) (u : HO), H' r = some u → isTup u = false → ∀ b ∈ [r], ∀ o, H' b = some o → isTup o = false := by
      intro H' u e t b hb o e'
      have z : b = r := by simpa using hb
      rw [z, e] at e'
      cases e'
      exact t
    have k5 : Keep [r] H4 (upd H4 r (.ins C dx ([("profile", .ref x)] : List (Str × V)))) := Keep.put (by simp)
    have pr5 := pr4.keep k5 (nr H4 _ (s4 _ _ ho) rfl) (by
      intro b hb z
      have z' : b = r := by simpa using z
      subst z'
      have e : b = x ∨ b = c1' ∨ b = c2' ∨ b = c3' := by simpa using hb
      rcases e with rfl | rfl | rfl | rfl
      · rw [xf] at ho; cases ho
      · rw [q1'] at ho; cases ho
      · rw [q2'] at ho; cases ho
      · rw [q3'] at ho; cases ho)
    have k05 : Keep [r] H (upd H4 r (.ins C dx ([("profile", .ref x)] : List (Str × V)))) := (Keep.of_same s4).trans k5
    have o5 : (upd H4 r (.ins C dx ([("profile", .ref x)] : List (Str × V)))) r = some (.ins C dx ([("profile", .ref x)] : List (Str × V))) := upd_same
    generalize (upd H4 r (.ins C dx ([("profile", .ref x)] : List (Str × V)))) = H5 at pr5 k05 o5 ⊢
    have ap : Apart [x, c1', c2', c3'] [r] := by
      intro b hb z
      have z' : b = r := by simpa using z
      subst z'
      have e : b = x ∨ b = c1' ∨ b = c2' ∨ b = c3' := by simpa using hb
      rcases e with rfl | rfl | rfl | rfl
      · rw [xf] at ho; cases ho
      · rw [q1'] at ho; cases ho
      · rw [q2'] at ho; cases ho
      · rw [q3'] at ho; cases ho
    refine ⟨20, rfl, fun H6 a2 s6 f6 => ⟨_, rfl, r, C, dx, _, rfl, s6 _ _ o5, T.cl, T.nI, by show 1 < 1000; decide, ?_⟩⟩
    rw [rF_2]
    have k7 : Keep [r] H6 (upd H6 r (.ins C dx ([("profile", .ref x), ("injection_temperature", .ref a2)] : List (Str × V)))) := Keep.put (by simp)
    have n6 := nr H6 _ (s6 _ _ o5) rfl
    have pr7 := (pr5.same s6).keep k7 n6 ap
    have f7 := f6.keep k7 n6
    have k07 := (k05.trans (Keep.of_same s6)).trans k7
    have o7 : (upd H6 r (.ins C dx ([("profile", .ref x), ("injection_temperature", .ref a2)] : List (Str × V)))) r = _ := upd_same
    generalize (upd H6 r (.ins C dx ([("profile", .ref x), ("injection_temperature", .ref a2)] : List (Str × V)))) = H7 at pr7 f7 k07 o7 ⊢
    refine ⟨0, rfl, fun H8 a3 s8 f8 => ⟨_, rfl, r, C, dx, _, rfl, s8 _ _ o7, T.cl, T.nA, by show 2 < 1000; decide, ?_⟩⟩
    rw [rF_3]
    have k9 : Keep [r] H8 (upd H8 r (.ins C dx ([("profile", .ref x), ("injection_temperature", .ref a2), ("injected_sum", .ref a3)] : List (Str × V)))) := Keep.put (by simp)
    have n8' := nr H8 _ (s8 _ _ o7) rfl
    have pr9 := (pr7.same s8).keep k9 n8' ap
    have f9 := (f7.same s8).keep k9 n8'
    have g9 := f8.keep k9 n8'
    have k09 := (k07.trans (Keep.of_same s8)).trans k9
    have o9 : (upd H8 r (.ins C dx ([("profile", .ref x), ("injection_temperature", .ref a2), ("injected_sum", .ref a3)] : List (Str × V)))) r = _ := upd_same
    generalize (upd H8 r (.ins C dx ([("profile", .ref x), ("injection_temperature", .ref a2), ("injected_sum", .ref a3)] : List (Str × V)))) = H9 at pr9 f9 g9 k09 o9 ⊢
    refine ⟨0, rfl, fun H10 a4 s10 f10 => ⟨_, rfl, r, C, dx, _, rfl, s10 _ _ o9, T.cl, T.nB, by show 3 < 1000; decide, ?_⟩⟩
    rw [rF_4]
    refine ⟨_, rfl, r, C, dx, _, rfl, upd_same, T.cl, T.nN, by show 4 < 1000; decide, ?_⟩
    rw [rF_5]
    refine ⟨_, rfl, r, C, dx, _, rfl, upd_same, T.cl, T.nS, by show 5 < 1000; decide, ?_⟩
    rw [rF_6, upd_upd, upd_upd]
    have k11 : Keep [r] H10 (upd H10 r (.ins C dx (rF x a2 a3 a4 0 .non))) := Keep.put (by simp)
    have n10 := nr H10 _ (s10 _ _ o9) rfl
    refine k n1 n8 _ (r :: ([x, c1', c2', c3'] ++ [])) ((k09.trans (Keep.of_same s10)).trans k11) ⟨x, a2, a3, a4, .non, [x, c1', c2', c3'], [], rfl, ⟨⟨dx, upd_same⟩, (pr9.same s10).keep k11 n10 ap, (f9.same s10).keep k11 n10, (g9.same s10).keep k11 n10, f10.keep k11 n10, ⟨rfl, rfl⟩, fun _ _ => by simp, fun z => ap r z (by simp), by simp⟩⟩ fun b hb => ?_
    have e : b = r ∨ b = x ∨ b = c1' ∨ b = c2' ∨ b = c3' := by simpa using hb
    rcases e with rfl | rfl | rfl | rfl | rfl
    · exact .inl rfl
    · exact .inr xf
    · exact .inr q1'
    · exact .inr q2'
    · exact .inr q3'
end
end CF
namespace CF
open PySem PySem.Spec PyProof.Rows L2
open PySem.W (Codec)
theorem ResL.res {C CP : Addr} {H : Hp} {r p i a b : Addr} {sv : V} {fp fs : List Addr} {R : Kqk1.Reservoir} (h : ResL C CP H r p i a b sv fp fs R) : Res C CP H r (r :: (fp ++ fs)) R := ⟨p, i, a, b, sv, fp, fs, rfl, h⟩
/-- the reservoir behind a change of its own object and of its profile -/
theorem ResL.build {C CP : Addr} {H H' : Hp} {r p i a b p' i' a' b' : Addr} {sv : V} {fp fs fp' : List Addr} {R R' : Kqk1.Reservoir} (h : ResL C CP H r p i a b sv fp fs R) (k : Keep (r :: fp) H H')
    (o : ∃ dx, H' r = some (.ins C dx (rF p' i' a' b' (R'.producedCount : Int) sv))) (hp : Prof CP H' p' fp' R'.cells) (sub : ∀ x ∈ fp', x ∈ fp ∨ H x = none)
    (hi : FrA H' i' R'.injection) (ha : FrA H' a' R'.injectedSum) (hb : FrA H' b' R'.producedSum) (hs : R'.saved = R.saved) : ResL C CP H' r p' i' a' b' sv fp' fs R' := by
  obtain ⟨⟨dx, ho⟩, hp0, hi0, ha0, hb0, hs0, ap, rp, rs⟩ := h
  have nt : ∀ x ∈ r :: fp, ∀ o, H x = some o → isTup o = false := by
    intro x hx o e
    rcases List.mem_cons.mp hx with rfl | hx
    · rw [ho] at e
      cases e
      rfl
    · exact nt_of hp0.noTup x hx o e
  have tr : ∀ x ∈ fs, ∃ o, H x = some o := fun x hx => by
    obtain ⟨o, e, _⟩ := hs0.noTup x hx
    exact ⟨o, e⟩
  refine ⟨o, hp, hi, ha, hb, ?_, ?_, ?_, rs⟩
  · rw [hs]
    refine hs0.keep k nt fun x hx z => ?_
    rcases List.mem_cons.mp z with rfl | z
    · exact rs hx
    · exact ap x z hx
  · intro x hx z
    rcases sub x hx with h | h
    · exact ap x h z
    · obtain ⟨o, e⟩ := tr x z
      rw [h] at e
      cases e
  · intro z
    rcases sub r z with h | h
    · exact rp h
    · rw [ho] at h
      cases h
theorem Keep.fa {H H' : Hp} {r : Addr} {fp fs : List Addr} (k : Keep (r :: fp) H H') : Keep (r :: (fp ++ fs)) H H' := k.mono fun x hx => by
  rcases List.mem_cons.mp hx with rfl | hx
  · simp
  · simp [hx]
theorem Keep.fp {H H' : Hp} {r : Addr} {fp : List Addr} (k : Keep fp H H') : Keep (r :: fp) H H' := k.mono fun x hx => by simp [hx]
theorem subFa {H : Hp} {r : Addr} {fp fs fp' : List Addr} (sub : ∀ x ∈ fp', x ∈ fp ∨ H x = none) : ∀ x ∈ r :: (fp' ++ fs), x ∈ r :: (fp ++ fs) ∨ H x = none := by
  intro x hx
  rcases List.mem_cons.mp hx with rfl | hx
  · simp
  · rcases List.mem_append.mp hx with hx | hx
    · rcases sub x hx with h | h
      · simp [h]
      · exact .inr h
    · simp [hx]
def spRCount (C CP : Addr) : Sp := fun vs H Q _ => ∃ r fa R, vs = [.ref r] ∧ Res C CP H r fa R ∧ Q (.int (R.cells.length : Int)) H
def spRCheck (C CP CC : Addr) : Sp := fun vs H Q E => ∃ r fa R, ∃ i : Nat, vs = [.ref r, .int (i : Int)] ∧ Res C CP H r fa R ∧ (R.cells.length ≤ i → E (.ref CC) none H) ∧ (i < R.cells.length → Q .non H)
def spRCap (C CP CC CO : Addr) : Sp := fun vs H Q E => ∃ r fa R, ∃ i v : Nat, vs = [.ref r, .int (i : Int), .int (v : Int)] ∧ Res C CP H r fa R ∧ (R.cells.length ≤ i → E (.ref CC) none H) ∧ (i < R.cells.length → v < 1 ∨ 20 < v → E (.ref CO) none H) ∧
  (i < R.cells.length → 1 ≤ v → v ≤ 20 → ∀ H', Keep fa H H' → Res C CP H' r fa { R with cells := R.cells.set i { Kqk1.cell R i with rockCapacity := v } } → Q (.int ((Kqk1.cell R i).rockCapacity : Int)) H')
section
variable {P : Program} {w : World} {K : PySem.W.Frag} {mg : Str → Option Value} {base : Heap} {C CP CO CC CD : Addr}
theorem scRC : FnScope ["self"] ["self"] (defScope sRCount) := ⟨rfl, rfl, rfl, by decide +kernel, rfl, by decide +kernel, by decide +kernel⟩
theorem ok_rcount {f : Addr} {fd : FuncData} (F : Fun K "cell_count" "Reservoir.cell_count" sRCount f fd) (T : RTxt K mg C) (TP : PTxt K mg CP) (G : MetOk CX0 P w K mg base 1 CP "cell_count" ["self"] (spCount CP)) : FnOk P w K mg base CX0 2 f fd ["self"] (spRCount C CP) := by
  refine F.ok scRC (fun vs H Q E h => ?_) (fun cdv A outer s H vs Q E hr h => ⟨_, pss_one (ps_ret (pe_m0' G TP.cl hr (by decide) pass0 (pe_fld (pv 0) rfl))), ?_⟩)
  · obtain ⟨r, fa, R, rfl, _⟩ := h
    rfl
  · obtain ⟨r, fa, R, rfl, ⟨p, i, a, b, sv, fp, fs, rfl, ⟨⟨dx, ho⟩, hp, hi, ha, hb, hs, ap, rp, rs⟩⟩, k⟩ := h
    obtain ⟨lc, lr, lw, xs, ws, efp, ⟨⟨dx', ho'⟩, _⟩⟩ := id hp
    exact ⟨_, rfl, r, C, dx, _, _, rfl, ho, T.cl, T.nP, rF_p, p, dx', _, rfl, ho', pF_no (by decide +kernel) (by decide +kernel) (by decide +kernel), p, fp, R.cells, rfl, hp, k⟩
theorem scRK : FnScope ["self", "cell"] ["self", "cell"] (defScope sRCheck) := ⟨rfl, rfl, rfl, by decide +kernel, rfl, by decide +kernel, by decide +kernel⟩
theorem ok_rcheck {f : Addr} {fd : FuncData} (F : Fun K "check_cell" "Reservoir.check_cell" sRCheck f fd) (T : RTxt K mg C) (TC : ExcTxt K mg "NoSuchCell" CC) (G : MetOk CX0 P w K mg base 2 C "cell_count" ["self"] (spRCount C CP)) : FnOk P w K mg base (L2.CX P w) 3 f fd ["self", "cell"] (spRCheck C CP CC) := by
  refine F.okX scRK (fun vs H Q E h => ?_) (fun cdv A outer s H vs Q E hr h => ⟨_, pss_one (ps_if (pt_cmpR op_ge (pv 1) (pe_m0' G T.cl hr (by decide) pass0 (pv 0)) (nomark _))
      (pss_one (ps_raise rfl (takes_of rfl rfl rfl rfl) (TC.pmk (by exact rfl)))) pss_nil), ?_⟩)
  · obtain ⟨r, fa, R, i, rfl, _⟩ := h
    rfl
  · obtain ⟨r, fa, R, i, rfl, hR, he, hq⟩ := h
    obtain ⟨p, ii, a, b, sv, fp, fs, rfl, ⟨⟨dx, ho⟩, _⟩⟩ := id hR
    refine ⟨_, rfl, _, rfl, r, dx, _, rfl, ho, rF_no (by decide +kernel) (by decide +kernel) (by decide +kernel) (by decide +kernel) (by decide +kernel) (by decide +kernel), r, _, R, rfl, hR, _, _, rfl, rfl, _, rfl, ifB (fun c => ?_) (fun c => ?_)⟩
    · have c1 := of_decide_eq_true c
      exact he (by omega)
    · have c1 := of_decide_eq_false c
      exact hq (by omega)
theorem scRP : FnScope ["self", "cell", "rock_capacity", "previous"] ["self", "cell", "rock_capacity"] (defScope sRCap) := ⟨rfl, rfl, rfl, by decide +kernel, rfl, by decide +kernel, by decide +kernel⟩
theorem cell_at {R : Kqk1.Reservoir} {i : Nat} (h : i < R.cells.length) : R.cells[i]? = some (Kqk1.cell R i) := by
  unfold Kqk1.cell
  rw [List.getD_eq_getElem?_getD, List.getElem?_eq_getElem h]
  rfl
theorem capV_at {R : Kqk1.Reservoir} {i : Nat} (h : i < R.cells.length) : (capV R.cells)[i]? = some (.int ((Kqk1.cell R i).rockCapacity : Int)) := by
  unfold capV
  rw [List.getElem?_map, cell_at h]
  rfl
theorem map_set_same {α β : Type} {f : α → β} {l : List α} {i : Nat} {x y : α} (hx : l[i]? = some x) (e : f y = f x) : (l.set i y).map f = l.map f := by
  refine List.ext_getElem? fun j => ?_
  rw [List.getElem?_map, List.getElem?_map, List.getElem?_set]
  by_cases h : i = j
  · subst h
    rw [if_pos rfl, hx]
    have hl := (List.getElem?_eq_some_iff.mp hx).1
    rw [if_pos hl]
    show some (f y) = some (f x)
    rw [e]
  · rw [if_neg h]
theorem ok_rcap {f : Addr} {fd : FuncData} (F : Fun K "set_rock_capacity" "Reservoir.set_rock_capacity" sRCap f fd) (T : RTxt K mg C) (TP : PTxt K mg CP) (GK : MetOk (L2.CX P w) P w K mg base 3 C "check_cell" ["self", "cell"] (spRCheck C CP CC))
    (GR : DefOk (L2.CX P w) P w K mg base 1 "check_range" ["number", "least", "most"] (spRange CO)) : FnOk P w K mg base (L2.CX P w) 4 f fd ["self", "cell", "rock_capacity"] (spRCap C CP CC CO) := by
  refine F.okX scRP (fun vs H Q E h => ?_) (fun cdv A outer s H vs Q E hr h => ⟨_, pss_cons (ps_expr (pe_m GK T.cl hr (by decide) (passE (takes_of rfl rfl rfl rfl)) (pv 0) (pa_cons (pv 1) pa_nil)))
      (pss_cons (ps_expr (pe_d GR hr (by decide) rfl (passE (takes_of rfl rfl rfl rfl)) (pa_cons (pv 2) (pa_cons pe_int (pa_cons (pe_k1 T.m2 rfl) pa_nil)))))
      (pss_cons (ps_set (i := 3) scRP.nd rfl (Or.inl rfl) (pe_ix ix_list (pe_fld (pe_fld (pv 0) rfl) rfl) (pv 1) (fun _ _ => rfl)))
      (pss_cons (ps_asg (pv 2) (pg_sub (pe_fld (pe_fld (pv 0) rfl) rfl) (pv 1) set_list))
      (pss_one (ps_ret (pv 3)))))), ?_⟩)
  · obtain ⟨r, fa, R, i, v, rfl, _⟩ := h
    rfl
  · obtain ⟨r, fa, R, i, v, rfl, hR, hc, ho, k⟩ := h
    obtain ⟨p, ii, a, b, sv, fp, fs, rfl, hL⟩ := id hR
    obtain ⟨dx, ob⟩ := hL.obj
    refine ⟨_, rfl, r, dx, _, rfl, ob, rF_no (by decide +kernel) (by decide +kernel) (by decide +kernel) (by decide +kernel) (by decide +kernel) (by decide +kernel), _, rfl, r, _, R, i, rfl, hR, hc, fun hi => ?_⟩
    refine ⟨_, rfl, (v : Int), 1, 20, rfl, fun c => ho hi (by omega), fun c1 c2 => ?_⟩
    obtain ⟨lc, lr, lw, rv, wv, efp, hP⟩ := id hL.prof
    obtain ⟨dx', ob'⟩ := hP.obj
    refine ⟨_, rfl, r, C, dx, _, _, rfl, ob, T.cl, T.nP, rF_p, p, CP, dx', _, _, rfl, ob', TP.cl, TP.nC, pF_c, _, rfl, lc, _, _, _, rfl, rfl, SqL.of hP.caps, atI_nat (capV_at hi), ?_⟩
    have hl : i < (capV R.cells).length := by unfold capV; rw [List.length_map]; exact hi
    refine ⟨_, rfl, _, rfl, r, C, dx, _, _, rfl, ob, T.cl, T.nP, rF_p, p, CP, dx', _, _, rfl, ob', TP.cl, TP.nC, pF_c, _, rfl, lc, _, _, i, rfl, rfl, hP.caps, ixN_nat hl, _, rfl, ?_⟩
    have lin : lc ∈ fp := by rw [efp]; simp
    have k1 : Keep fp H (upd H lc (.lst ((capV R.cells).set i (.int (v : Int))))) := Keep.put lin
    have nt := nt_of hL.prof.noTup
    have pl : p ≠ lc := ne_of ob' hP.caps (by intro z; cases z)
    have hc := cell_at hi
    have pr : Prof CP (upd H lc (.lst ((capV R.cells).set i (.int (v : Int))))) p fp (R.cells.set i { Kqk1.cell R i with rockCapacity := v }) := by
      refine ⟨lc, lr, lw, rv, wv, efp, ⟨⟨dx', (upd_ne pl).trans ob'⟩, ?_, (upd_ne hP.cr.symm).trans hP.rock, (upd_ne hP.cw.symm).trans hP.water, ?_, ?_, hP.cr, hP.cw, hP.rw'⟩⟩
      · rw [upd_same]
        unfold capV
        rw [List.map_set]
      · rw [map_set_same (f := Kqk1.Cell.rock) hc (by rfl)]
        exact hP.rq.mono fun a q f => f.keep k1 nt
      · rw [map_set_same (f := Kqk1.Cell.water) hc (by rfl)]
        exact hP.wq.mono fun a q f => f.keep k1 nt
    have rl : r ≠ lc := fun z => hL.rp (z ▸ lin)
    have hL' : ResL C CP (upd H lc (.lst ((capV R.cells).set i (.int (v : Int))))) r p ii a b sv fp fs { R with cells := R.cells.set i { Kqk1.cell R i with rockCapacity := v } } :=
      hL.build k1.fp ⟨dx, (upd_ne rl).trans ob⟩ pr (fun x hx => .inl hx) (hL.inj.keep k1 nt) (hL.si.keep k1 nt) (hL.sp.keep k1 nt) rfl
    exact k hi (by omega) (by omega) _ k1.fp.fa hL'.res
end
end CF
namespace CF
open PySem PySem.Spec PyProof.Rows L2
open PySem.W (Codec)
def heated (q : Rat) (c : Kqk1.Cell) : Kqk1.Cell := { c with rock := q, water := q }
def spRSet (C CP CC CO : Addr) : Sp := fun vs H Q E => ∃ r fa R, ∃ i v : Nat, vs = [.ref r, .int (i : Int), .int (v : Int)] ∧ Res C CP H r fa R ∧ (R.cells.length ≤ i → E (.ref CC) none H) ∧ (i < R.cells.length → 300 < v → E (.ref CO) none H) ∧
  (i < R.cells.length → v ≤ 300 → ∀ H', Keep fa H H' → Res C CP H' r fa { R with cells := R.cells.set i (heated (v : Rat) (Kqk1.cell R i)) } → Q .non H')
def spRAll (C CP CO : Addr) : Sp := fun vs H Q E => ∃ r fa R, ∃ v : Nat, vs = [.ref r, .int (v : Int)] ∧ Res C CP H r fa R ∧ R.cells.length ≤ 1000 ∧ (300 < v → E (.ref CO) none H) ∧
  (v ≤ 300 → ∀ H', Keep fa H H' → Res C CP H' r fa { R with cells := R.cells.map (heated (v : Rat)) } → Q .non H')
def spRInj (C CP CO : Addr) : Sp := fun vs H Q E => ∃ r fa R, ∃ v : Nat, vs = [.ref r, .int (v : Int)] ∧ Res C CP H r fa R ∧ (300 < v → E (.ref CO) none H) ∧
  (v ≤ 300 → ∀ H' a, Keep fa H H' → Res C CP H' r fa { R with injection := (v : Rat) } → FrA H' a R.injection → Q (.ref a) H')
def spRGet (C CP CC : Addr) : Sp := fun vs H Q E => ∃ r fa R, ∃ i : Nat, vs = [.ref r, .int (i : Int)] ∧ Res C CP H r fa R ∧ (R.cells.length ≤ i → E (.ref CC) none H) ∧
  (i < R.cells.length → ∀ H' t a b, Same H H' → H' t = some (.tup [.int ((Kqk1.cell R i).rockCapacity : Int), .ref a, .ref b]) → FrA H' a (Kqk1.cell R i).rock → FrA H' b (Kqk1.cell R i).water → Q (.ref t) H')
def spRHeat (C CP : Addr) : Sp := fun vs H Q _ => ∃ r fa R, vs = [.ref r] ∧ Res C CP H r fa R ∧ CellsFit R.cells ∧ HeatFit R.cells ∧ ∀ H' a, Same H H' → FrA H' a (Kqk1.totalHeat R.cells) → Q (.ref a) H'
section
variable {P : Program} {w : World} {K : PySem.W.Frag} {mg : Str → Option Value} {base : Heap} {C CP CO CC CD : Addr}
theorem apart_r {r : Addr} {fp : List Addr} (h : r ∉ fp) : Apart fp [r] := fun x hx z => by
  have e : x = r := by simpa using z
  rw [e] at hx
  exact h hx
theorem scRS : FnScope ["self", "cell", "temperature"] ["self", "cell", "temperature"] (defScope sRSet) := ⟨rfl, rfl, rfl, by decide +kernel, rfl, by decide +kernel, by decide +kernel⟩
theorem pF_none {lc lr lw : Addr} {m : Str} (h : (m == ("rock_capacities" : Str)) = false ∧ (m == ("rock_temperatures" : Str)) = false ∧ (m == ("water_temperatures" : Str)) = false) : (pF lc lr lw).lookup m = none := pF_no h.1 h.2.1 h.2.2
theorem rF_none {p i a b : Addr} {n : Int} {sv : V} {m : Str} (h : (m == ("profile" : Str)) = false ∧ (m == ("injection_temperature" : Str)) = false ∧ (m == ("injected_sum" : Str)) = false ∧ (m == ("produced_sum" : Str)) = false ∧ (m == ("produced_count" : Str)) = false ∧ (m == ("saved_profile" : Str)) = false) :
    (rF p i a b n sv).lookup m = none := rF_no h.1 h.2.1 h.2.2.1 h.2.2.2.1 h.2.2.2.2.1 h.2.2.2.2.2
theorem getD_cell {R : Kqk1.Reservoir} {i : Nat} : R.cells.getD i ⟨1, 0, 0⟩ = Kqk1.cell R i := rfl
theorem ok_rset {f : Addr} {fd : FuncData} (F : Fun K "set_temperature" "Reservoir.set_temperature" sRSet f fd) (T : RTxt K mg C) (TP : PTxt K mg CP) (GK : MetOk (L2.CX P w) P w K mg base 3 C "check_cell" ["self", "cell"] (spRCheck C CP CC))
    (GR : DefOk (L2.CX P w) P w K mg base 1 "check_range" ["number", "least", "most"] (spRange CO)) (GS : MetOk CX0 P w K mg base 1 CP "set_temperature" ["self", "cell", "temperature"] (spSetT CP)) (GW : DefOk CX0 P w K mg base 1 "whole" ["number"] spWhole) : FnOk P w K mg base (L2.CX P w) 4 f fd ["self", "cell", "temperature"] (spRSet C CP CC CO) := by
  refine F.okX scRS (fun vs H Q E h => ?_) (fun cdv A outer s H vs Q E hr h => ⟨_, pss_cons (ps_expr (pe_m GK T.cl hr (by decide) (passE (takes_of rfl rfl rfl rfl)) (pv 0) (pa_cons (pv 1) pa_nil)))
      (pss_cons (ps_expr (pe_d GR hr (by decide) rfl (passE (takes_of rfl rfl rfl rfl)) (pa_cons (pv 2) (pa_cons pe_int (pa_cons (pe_k1 T.m3 rfl) pa_nil)))))
      (pss_one (ps_expr (pe_m GS TP.cl hr (by decide) pass0 (pe_fld (pv 0) rfl) (pa_cons (pv 1) (pa_cons (pe_d GW hr (by decide) rfl pass0 (pa_cons (pv 2) pa_nil)) pa_nil)))))), ?_⟩)
  · obtain ⟨r, fa, R, i, v, rfl, _⟩ := h
    rfl
  · obtain ⟨r, fa, R, i, v, rfl, hR, hc, ho, k⟩ := h
    obtain ⟨p, ii, a, b, sv, fp, fs, rfl, hL⟩ := id hR
    obtain ⟨dx, ob⟩ := hL.obj
    refine ⟨_, rfl, r, dx, _, rfl, ob, rF_none (by decide +kernel), _, rfl, r, _, R, i, rfl, hR, hc, fun hi => ?_⟩
    refine ⟨_, rfl, (v : Int), 0, 300, rfl, fun c => ho hi (by omega), fun c1 c2 => ?_⟩
    obtain ⟨lc, lr, lw, rv, wv, efp, hP⟩ := id hL.prof
    obtain ⟨dx', ob'⟩ := hP.obj
    refine ⟨_, rfl, r, C, dx, _, _, rfl, ob, T.cl, T.nP, rF_p, p, dx', _, rfl, ob', pF_none (by decide +kernel), _, rfl, _, rfl, (v : Int), rfl, fun H1 a1 s1 f1 => ?_⟩
    refine ⟨p, fp, R.cells, i, a1, (v : Rat), rfl, hL.prof.same s1, hi, f1, fun H2 k2 pr2 => ?_⟩
    have k12 : Keep fp H H2 := (Keep.of_same s1).trans k2
    have nt := nt_of hL.prof.noTup
    have rp := hL.rp
    have hL' : ResL C CP H2 r p ii a b sv fp fs { R with cells := R.cells.set i (heated (v : Rat) (Kqk1.cell R i)) } :=
      hL.build k12.fp ⟨dx, k12 _ _ ob rp⟩ pr2 (fun x hx => .inl hx) (hL.inj.keep k12 nt) (hL.si.keep k12 nt) (hL.sp.keep k12 nt) rfl
    exact k hi (by omega) _ k12.fp.fa hL'.res
theorem scRA : FnScope ["self", "temperature", "cell"] ["self", "temperature"] (defScope sRAll) := ⟨rfl, rfl, rfl, by decide +kernel, rfl, by decide +kernel, by decide +kernel⟩
/-- the first i of them heated -/
def heatUp (q : Rat) (i : Nat) (cells : List Kqk1.Cell) : List Kqk1.Cell := (cells.take i).map (heated q) ++ cells.drop i
theorem heatUp_zero (q : Rat) (cells : List Kqk1.Cell) : heatUp q 0 cells = cells := rfl
theorem heatUp_all (q : Rat) (cells : List Kqk1.Cell) : heatUp q cells.length cells = cells.map (heated q) := by
  unfold heatUp
  rw [List.take_length, List.drop_length, List.append_nil]
theorem heatUp_len (q : Rat) (i : Nat) (cells : List Kqk1.Cell) : (heatUp q i cells).length = cells.length := by
  unfold heatUp
  rw [List.length_append, List.length_map, ← List.length_append, List.take_append_drop]
theorem heatUp_more (q : Rat) {i : Nat} {cells : List Kqk1.Cell} (h : i < cells.length) : (heatUp q i cells).set i (heated q ((heatUp q i cells).getD i ⟨1, 0, 0⟩)) = heatUp q (i + 1) cells := by
  have l1 : ((cells.take i).map (heated q)).length = i := by
    rw [List.length_map, List.length_take]
    omega
  have e : (heatUp q i cells).getD i ⟨1, 0, 0⟩ = cells[i] := by
    unfold heatUp
    rw [List.getD_eq_getElem?_getD, List.getElem?_append_right (by omega), l1, Nat.sub_self, List.getElem?_drop, Nat.add_zero, List.getElem?_eq_getElem h]
    rfl
  rw [e]
  unfold heatUp
  rw [List.set_append_right _ _ (by omega), l1, Nat.sub_self, take_more (List.getElem?_eq_getElem h), List.map_append, List.append_assoc]
  congr 1
  rw [List.drop_eq_getElem_cons h]
  rfl
theorem ok_rall {f : Addr} {fd : FuncData} (F : Fun K "set_all_temperatures" "Reservoir.set_all_temperatures" sRAll f fd) (T : RTxt K mg C) (TP : PTxt K mg CP) (GC : MetOk CX0 P w K mg base 2 C "cell_count" ["self"] (spRCount C CP))
    (GR : DefOk (L2.CX P w) P w K mg base 1 "check_range" ["number", "least", "most"] (spRange CO)) (GS : MetOk CX0 P w K mg base 1 CP "set_temperature" ["self", "cell", "temperature"] (spSetT CP)) (GW : DefOk CX0 P w K mg base 1 "whole" ["number"] spWhole) : FnOk P w K mg base (L2.CX P w) 4 f fd ["self", "temperature"] (spRAll C CP CO) := by
  refine F.okX scRA (fun vs H Q E h => ?_) (fun cdv A outer s H vs Q E hr h => ⟨_, pss_cons (ps_expr (pe_d GR hr (by decide) rfl (passE (takes_of rfl rfl rfl rfl)) (pa_cons (pv 1) (pa_cons pe_int (pa_cons (pe_k1 T.m3 rfl) pa_nil)))))
      (pss_one (ps_for (passes_of rfl) rfl (pi_range1 rfl T.gR (pa_cons (pe_m0' GC T.cl hr (by decide) pass0 (pv 0)) pa_nil)) (pg_name (i := 2) scRA.nd rfl (Or.inl rfl))
        (pss_one (ps_expr (pe_m GS TP.cl hr (by decide) pass0 (pe_fld (pv 0) rfl) (pa_cons (pv 2) (pa_cons (pe_d GW hr (by decide) rfl pass0 (pa_cons (pv 1) pa_nil)) pa_nil))))))), ?_⟩)
  · obtain ⟨r, fa, R, v, rfl, _⟩ := h
    rfl
  · obtain ⟨r, fa, R, v, rfl, hR, hsm, ho, k⟩ := h
    obtain ⟨p, ii, a, b, sv, fp, fs, rfl, hL⟩ := id hR
    obtain ⟨dx, ob⟩ := hL.obj
    refine ⟨_, rfl, (v : Int), 0, 300, rfl, fun c => ho (by omega), fun c1 c2 => ?_⟩
    have hv : v ≤ 300 := by omega
    refine ⟨_, rfl, r, dx, _, rfl, ob, rF_none (by decide +kernel), r, _, R, rfl, hR, _, rfl, by omega, by omega, for_range (lo := 0) (n := ((R.cells.length : Nat) : Int).toNat) (fun j σ H' => ∃ v2, σ = [some (.ref r), some (.int (v : Int)), v2] ∧ Keep fp H H' ∧ Prof CP H' p fp (heatUp (v : Rat) j R.cells))
      ⟨none, rfl, Keep.refl _ _, hL.prof⟩ ?_ ?_⟩
    · rintro j σ H' hj ⟨v2, rfl, k1, pr⟩
      rw [Int.toNat_natCast] at hj
      obtain ⟨lc, lr, lw, rv, wv, efp, hP⟩ := id pr
      obtain ⟨dx', ob'⟩ := hP.obj
      refine ⟨_, rfl, r, C, dx, _, _, rfl, k1 _ _ ob hL.rp, T.cl, T.nP, rF_p, p, dx', _, rfl, ob', pF_none (by decide +kernel), _, rfl, _, rfl, (v : Int), rfl, fun H1 a1 s1 f1 => ?_⟩
      refine ⟨p, fp, heatUp (v : Rat) j R.cells, j, a1, (v : Rat), ?_, pr.same s1, by rw [heatUp_len]; exact hj, f1, fun H2 k2 pr2 => ⟨_, rfl, k1.trans ((Keep.of_same s1).trans k2), ?_⟩⟩
      · rw [Int.zero_add]
        rfl
      · rw [← heatUp_more (v : Rat) hj]
        exact pr2
    · rintro σ H' ⟨v2, rfl, k1, pr⟩
      rw [Int.toNat_natCast, heatUp_all] at pr
      have nt := nt_of hL.prof.noTup
      have hL' : ResL C CP H' r p ii a b sv fp fs { R with cells := R.cells.map (heated (v : Rat)) } :=
        hL.build k1.fp ⟨dx, k1 _ _ ob hL.rp⟩ pr (fun x hx => .inl hx) (hL.inj.keep k1 nt) (hL.si.keep k1 nt) (hL.sp.keep k1 nt) rfl
      exact k hv _ k1.fp.fa hL'.res
theorem scRJ : FnScope ["self", "temperature", "previous"] ["self", "temperature"] (defScope sRInj) := ⟨rfl, rfl, rfl, by decide +kernel, rfl, by decide +kernel, by decide +kernel⟩
theorem ok_rinj {f : Addr} {fd : FuncData} (F : Fun K "set_injection_temperature" "Reservoir.set_injection_temperature" sRInj f fd) (T : RTxt K mg C) 
    (GR : DefOk (L2.CX P w) P w K mg base 1 "check_range" ["number", "least", "most"] (spRange CO)) (GW : DefOk CX0 P w K mg base 1 "whole" ["number"] spWhole) : FnOk P w K mg base (L2.CX P w) 2 f fd ["self", "temperature"] (spRInj C CP CO) := by
  refine F.okX scRJ (fun vs H Q E h => ?_) (fun cdv A outer s H vs Q E hr h => ⟨_, pss_cons (ps_expr (pe_d GR hr (by decide) rfl (passE (takes_of rfl rfl rfl rfl)) (pa_cons (pv 1) (pa_cons pe_int (pa_cons (pe_k1 T.m3 rfl) pa_nil)))))
      (pss_cons (ps_set (i := 2) scRJ.nd rfl (Or.inl rfl) (pe_fld (pv 0) rfl))
      (pss_cons (ps_fld (pv 0) (pe_d GW hr (by decide) rfl pass0 (pa_cons (pv 1) pa_nil)) rfl)
      (pss_one (ps_ret (pv 2))))), ?_⟩)
  · obtain ⟨r, fa, R, v, rfl, _⟩ := h
    rfl
  · obtain ⟨r, fa, R, v, rfl, hR, ho, k⟩ := h
    obtain ⟨p, ii, a, b, sv, fp, fs, rfl, hL⟩ := id hR
    obtain ⟨dx, ob⟩ := hL.obj
    refine ⟨_, rfl, (v : Int), 0, 300, rfl, fun c => ho (by omega), fun c1 c2 => ?_⟩
    refine ⟨_, rfl, r, C, dx, _, _, rfl, ob, T.cl, T.nI, rF_i, _, rfl, (v : Int), rfl, fun H1 a1 s1 f1 => ⟨_, rfl, r, C, dx, _, rfl, s1 _ _ ob, T.cl, T.nI, rF_len, ?_⟩⟩
    rw [rF_puti]
    have k2 : Keep [r] H1 (upd H1 r (.ins C dx (rF p a1 a b (R.producedCount : Int) sv))) := Keep.put (by simp)
    have k12 : Keep [r] H (upd H1 r (.ins C dx (rF p a1 a b (R.producedCount : Int) sv))) := (Keep.of_same s1).trans k2
    have k13 : Keep (r :: fp) H (upd H1 r (.ins C dx (rF p a1 a b (R.producedCount : Int) sv))) := k12.mono fun x hx => by
      have : x = r := by simpa using hx
      rw [this]
      simp
    have nt : ∀ b ∈ [r], ∀ o, H b = some o → isTup o = false := by
      intro x hx o e
      have z : x = r := by simpa using hx
      rw [z, ob] at e
      cases e
      rfl
    have nt1 : ∀ b ∈ [r], ∀ o, H1 b = some o → isTup o = false := by
      intro x hx o e
      have z : x = r := by simpa using hx
      rw [z, s1 _ _ ob] at e
      cases e
      rfl
    have hL' : ResL C CP (upd H1 r (.ins C dx (rF p a1 a b (R.producedCount : Int) sv))) r p a1 a b sv fp fs { R with injection := (v : Rat) } :=
      hL.build k13 ⟨dx, upd_same⟩ (hL.prof.keep k12 nt (apart_r hL.rp)) (fun x hx => .inl hx) (f1.keep k2 nt1) (hL.si.keep k12 nt) (hL.sp.keep k12 nt) rfl
    exact ⟨_, rfl, k (by omega) _ ii k13.fa hL'.res (hL.inj.keep k12 nt)⟩
theorem scRG : FnScope ["self", "cell", "profile"] ["self", "cell"] (defScope sRGet) := ⟨rfl, rfl, rfl, by decide +kernel, rfl, by decide +kernel, by decide +kernel⟩
theorem ok_rget {f : Addr} {fd : FuncData} (F : Fun K "get_cell" "Reservoir.get_cell" sRGet f fd) (T : RTxt K mg C) (TP : PTxt K mg CP) (GK : MetOk (L2.CX P w) P w K mg base 3 C "check_cell" ["self", "cell"] (spRCheck C CP CC)) : FnOk P w K mg base (L2.CX P w) 4 f fd ["self", "cell"] (spRGet C CP CC) := by
  refine F.okX scRG (fun vs H Q E h => ?_) (fun cdv A outer s H vs Q E hr h => ⟨_, pss_cons (ps_expr (pe_m GK T.cl hr (by decide) (passE (takes_of rfl rfl rfl rfl)) (pv 0) (pa_cons (pv 1) pa_nil)))
      (pss_cons (ps_set (i := 2) scRG.nd rfl (Or.inl rfl) (pe_fld (pv 0) rfl))
      (pss_one (ps_ret (pe_tup (pa_cons (pe_ix ix_list (pe_fld (pv 2) rfl) (pv 1) (fun _ _ => rfl)) (pa_cons (pe_ix ix_list (pe_fld (pv 2) rfl) (pv 1) (fun _ _ => rfl)) (pa_cons (pe_ix ix_list (pe_fld (pv 2) rfl) (pv 1) (fun _ _ => rfl)) pa_nil))))))), ?_⟩)
  · obtain ⟨r, fa, R, i, rfl, _⟩ := h
    rfl
  · obtain ⟨r, fa, R, i, rfl, hR, hc, k⟩ := h
    obtain ⟨p, ii, a, b, sv, fp, fs, rfl, hL⟩ := id hR
    obtain ⟨dx, ob⟩ := hL.obj
    refine ⟨_, rfl, r, dx, _, rfl, ob, rF_none (by decide +kernel), _, rfl, r, _, R, i, rfl, hR, hc, fun hi => ?_⟩
    obtain ⟨lc, lr, lw, rv, wv, efp, hP⟩ := id hL.prof
    obtain ⟨dx', ob'⟩ := hP.obj
    have lr' : i < rv.length := by rw [hP.rq.length, List.length_map]; exact hi
    have lw' : i < wv.length := by rw [hP.wq.length, List.length_map]; exact hi
    have e1 := List.getElem?_eq_getElem lr'
    have e2 := List.getElem?_eq_getElem lw'
    obtain ⟨a1, q1, f1⟩ := frs_at hP.rq e1 (cell_at hi)
    obtain ⟨a2, q2, f2⟩ := frs_at hP.wq e2 (cell_at hi)
    rw [q1] at e1
    rw [q2] at e2
    refine ⟨_, rfl, r, C, dx, _, _, rfl, ob, T.cl, T.nP, rF_p, _, rfl, p, CP, dx', _, _, rfl, ob', TP.cl, TP.nC, pF_c, _, rfl, lc, _, _, _, rfl, rfl, SqL.of hP.caps, atI_nat (capV_at hi),
      _, rfl, p, CP, dx', _, _, rfl, ob', TP.cl, TP.nR, pF_r, _, rfl, lr, _, _, _, rfl, rfl, SqL.of hP.rock, atI_nat e1,
      _, rfl, p, CP, dx', _, _, rfl, ob', TP.cl, TP.nW, pF_w, _, rfl, lw, _, _, _, rfl, rfl, SqL.of hP.water, atI_nat e2, by show 3 ≤ sizeLine; decide, fun t ht => ?_⟩
    have s1 := same_upd (o := .tup [.int ((Kqk1.cell R i).rockCapacity : Int), .ref a1, .ref a2]) ht
    exact k hi _ t a1 a2 s1 upd_same (f1.same s1) (f2.same s1)
theorem scRH : FnScope ["self"] ["self"] (defScope sRHeat) := ⟨rfl, rfl, rfl, by decide +kernel, rfl, by decide +kernel, by decide +kernel⟩
theorem ok_rheat {f : Addr} {fd : FuncData} (F : Fun K "total_heat" "Reservoir.total_heat" sRHeat f fd) (T : RTxt K mg C) (TP : PTxt K mg CP) (G : MetOk CX0 P w K mg base 5 CP "total_heat" ["self"] (spHeat CP)) : FnOk P w K mg base CX0 6 f fd ["self"] (spRHeat C CP) := by
  refine F.ok scRH (fun vs H Q E h => ?_) (fun cdv A outer s H vs Q E hr h => ⟨_, pss_one (ps_ret (pe_m0' G TP.cl hr (by decide) pass0 (pe_fld (pv 0) rfl))), ?_⟩)
  · obtain ⟨r, fa, R, rfl, _⟩ := h
    rfl
  · obtain ⟨r, fa, R, rfl, ⟨p, i, a, b, sv, fp, fs, rfl, ⟨⟨dx, ho⟩, hp, hi, ha, hb, hs, ap, rp, rs⟩⟩, cf, hf, k⟩ := h
    obtain ⟨lc, lr, lw, xs, ws, efp, ⟨⟨dx', ho'⟩, _⟩⟩ := id hp
    exact ⟨_, rfl, r, C, dx, _, _, rfl, ho, T.cl, T.nP, rF_p, p, dx', _, rfl, ho', pF_none (by decide +kernel), p, fp, R.cells, rfl, hp, cf, hf, k⟩
end
end CF
namespace CF
open Kqk1
/-! fractions whose denominator divides B -/
def Dv (B : Nat) (q : Rat) : Prop := ∃ z : Int, q * (B : Rat) = (z : Rat)
theorem cast_mul (a b : Nat) : ((a * b : Nat) : Rat) = (a : Rat) * (b : Rat) := by push_cast; rfl
theorem icast_mul (a b : Int) : ((a * b : Int) : Rat) = (a : Rat) * (b : Rat) := by push_cast; rfl
theorem icast_add (a b : Int) : ((a + b : Int) : Rat) = (a : Rat) + (b : Rat) := by push_cast; rfl
theorem self_mul_den (q : Rat) : q * (q.den : Rat) = (q.num : Rat) := by
  have h := rat_self q
  have hd := den_cast_ne q
  have e : (q.num : Rat) / (q.den : Rat) * (q.den : Rat) = (q.num : Rat) := Rat.div_mul_cancel hd
  rw [← h] at e
  exact e
theorem dv_self (q : Rat) : Dv q.den q := ⟨q.num, self_mul_den q⟩
theorem Dv.mul {B : Nat} {q : Rat} (h : Dv B q) (k : Nat) : Dv (B * k) q := by
  obtain ⟨z, e⟩ := h
  refine ⟨z * (k : Int), ?_⟩
  rw [cast_mul, icast_mul, ← Rat.mul_assoc, e]
  rfl
theorem Dv.mul' {B : Nat} {q : Rat} (h : Dv B q) (k : Nat) : Dv (k * B) q := by
  rw [Nat.mul_comm]
  exact h.mul k
theorem Dv.add {B : Nat} {p q : Rat} (h : Dv B p) (g : Dv B q) : Dv B (p + q) := by
  obtain ⟨z, e⟩ := h
  obtain ⟨y, f⟩ := g
  refine ⟨z + y, ?_⟩
  rw [icast_add, ← e, ← f, Rat.add_mul]
theorem Dv.nmul {B : Nat} {q : Rat} (h : Dv B q) (n : Nat) : Dv B ((n : Rat) * q) := by
  obtain ⟨z, e⟩ := h
  refine ⟨(n : Int) * z, ?_⟩
  rw [icast_mul, ← e, Rat.mul_assoc]
  rfl
theorem Dv.nat (B n : Nat) : Dv B (n : Rat) := ⟨((n * B : Nat) : Int), by
  rw [← cast_mul]
  rfl⟩
theorem Dv.div {B : Nat} {q : Rat} (h : Dv B q) {k : Nat} (hk : k ≠ 0) : Dv (B * k) (q / (k : Rat)) := by
  obtain ⟨z, e⟩ := h
  refine ⟨z, ?_⟩
  have hk' : (k : Rat) ≠ 0 := by
    intro h
    exact hk (by exact_mod_cast h)
  rw [cast_mul, ← e]
  have d : q / (k : Rat) * (k : Rat) = q := Rat.div_mul_cancel hk'
  grind
theorem Dv.den_le {B : Nat} {q : Rat} (h : Dv B q) (hB : 0 < B) : q.den ≤ B := by
  obtain ⟨z, e⟩ := h
  have hB' : (B : Rat) ≠ 0 := by
    intro h
    have : B = 0 := by exact_mod_cast h
    omega
  have e2 : q = mkRat z B := by
    rw [Rat.mkRat_eq_div, ← e]
    exact (Rat.mul_div_cancel hB').symm
  rw [e2, Rat.den_mkRat, if_neg (by omega)]
  exact Nat.div_le_self _ _
theorem num_le {q : Rat} {M : Nat} (h : q ≤ (M : Rat)) : q.num ≤ (M : Int) * (q.den : Int) := by
  have e := self_mul_den q
  have hd : (0 : Rat) ≤ (q.den : Rat) := Rat.natCast_nonneg
  have : q * (q.den : Rat) ≤ (M : Rat) * (q.den : Rat) := Rat.mul_le_mul_of_nonneg_right h hd
  rw [e] at this
  have c : (M : Rat) * (q.den : Rat) = (((M : Int) * (q.den : Int) : Int) : Rat) := by
    rw [icast_mul]
    rfl
  rw [c] at this
  exact Rat.intCast_le_intCast.mp this
theorem le_num {q : Rat} {M : Nat} (h : -(M : Rat) ≤ q) : -((M : Int) * (q.den : Int)) ≤ q.num := by
  have e := self_mul_den q
  have hd : (0 : Rat) ≤ (q.den : Rat) := Rat.natCast_nonneg
  have : -(M : Rat) * (q.den : Rat) ≤ q * (q.den : Rat) := Rat.mul_le_mul_of_nonneg_right h hd
  rw [e] at this
  have c : -(M : Rat) * (q.den : Rat) = ((-((M : Int) * (q.den : Int)) : Int) : Rat) := by
    rw [Rat.intCast_neg, icast_mul]
    have : (((M : Int)) : Rat) = (M : Rat) := rfl
    have : (((q.den : Int)) : Rat) = (q.den : Rat) := rfl
    grind
  rw [c] at this
  exact Rat.intCast_le_intCast.mp this
/-- fits: by the denominator and the size -/
theorem fit_of {B M N m : Nat} {q : Rat} (h : Dv B q) (hB : 0 < B) (hb : B < 2 ^ N) (hM : M < 2 ^ m) (l : -(M : Rat) ≤ q) (u : q ≤ (M : Rat)) (hk : N + m ≤ 4400) : Fit 4400 q := by
  have d := h.den_le hB
  have d2 : q.den < 2 ^ N := Nat.lt_of_le_of_lt d hb
  have a := num_le u
  have b := le_num l
  have c : q.num.natAbs ≤ M * q.den := by
    have e : (((M * q.den : Nat)) : Int) = (M : Int) * (q.den : Int) := by push_cast; rfl
    omega
  have p : M * q.den < 2 ^ m * 2 ^ N := Nat.mul_lt_mul'' hM d2
  rw [← Nat.pow_add] at p
  refine ⟨Nat.lt_of_lt_of_le (Nat.lt_of_le_of_lt c p) (Nat.pow_le_pow_right (by decide) (by omega)), Nat.lt_of_lt_of_le d2 (Nat.pow_le_pow_right (by decide) (by omega))⟩
end CF
namespace CF
open Kqk1
/-! the product of a list -/
def pr : List Nat → Nat
  | [] => 1
  | x :: l => x * pr l
theorem pr_le {M : Nat} (hM : 1 ≤ M) : ∀ (l : List Nat) (n : Nat), (∀ x ∈ l, x ≤ M) → l.length ≤ n → pr l ≤ M ^ n
  | [], n, _, _ => Nat.one_le_pow n M hM
  | x :: l, 0, _, h => by simp at h
  | x :: l, n + 1, hx, h => by
    have ih := pr_le hM l n (fun y hy => hx y (by simp [hy])) (by simpa using h)
    show x * pr l ≤ M ^ (n + 1)
    rw [Nat.pow_succ, Nat.mul_comm]
    exact Nat.mul_le_mul ih (hx x (by simp))
theorem pr_pos : ∀ (l : List Nat), (∀ x ∈ l, 0 < x) → 0 < pr l
  | [], _ => by decide
  | x :: l, h => Nat.mul_pos (h x (by simp)) (pr_pos l fun y hy => h y (by simp [hy]))
theorem pr_dvd : ∀ {l : List Nat} {x : Nat}, x ∈ l → ∃ k, x * k = pr l
  | [], _, h => by simp at h
  | y :: l, x, h => by
    rcases List.mem_cons.mp h with rfl | h
    · exact ⟨pr l, rfl⟩
    · obtain ⟨k, e⟩ := pr_dvd h
      refine ⟨y * k, ?_⟩
      show x * (y * k) = y * pr l
      rw [← e, Nat.mul_left_comm]
/-! cells -/
structure GoodC (c : Cell) : Prop where
  c1 : 1 ≤ c.rockCapacity
  c2 : c.rockCapacity ≤ 20
  r0 : 0 ≤ c.rock
  r1 : c.rock ≤ 300
  w0 : 0 ≤ c.water
  w1 : c.water ≤ 300
def DvC (B : Nat) (c : Cell) : Prop := Dv B c.rock ∧ Dv B c.water
theorem mean_bounds {k : Nat} {a b : Rat} (a0 : 0 ≤ a) (a1 : a ≤ 300) (b0 : 0 ≤ b) (b1 : b ≤ 300) : 0 ≤ ((k : Rat) * a + b) / ((k + 1 : Nat) : Rat) ∧ ((k : Rat) * a + b) / ((k + 1 : Nat) : Rat) ≤ 300 := by
  have hk : (0 : Rat) ≤ (k : Rat) := Rat.natCast_nonneg
  have e : ((k + 1 : Nat) : Rat) = (k : Rat) + 1 := by push_cast; rfl
  have h1 : (0 : Rat) < ((k + 1 : Nat) : Rat) := by rw [e]; grind
  have m1 : (0 : Rat) ≤ (k : Rat) * a := Rat.mul_nonneg hk a0
  have m2 : (k : Rat) * a ≤ (k : Rat) * 300 := Rat.mul_le_mul_of_nonneg_left a1 hk
  constructor
  · refine Rat.not_lt.mp fun z => ?_
    rw [Rat.div_lt_iff h1] at z
    grind
  · refine Rat.not_lt.mp fun z => ?_
    rw [Rat.lt_div_iff h1, e] at z
    grind
theorem GoodC.eq {c : Cell} (h : GoodC c) : GoodC (equilibrated c) := by
  have m := mean_bounds (k := c.rockCapacity) h.r0 h.r1 h.w0 h.w1
  exact ⟨h.c1, h.c2, m.1, m.2, m.1, m.2⟩
theorem DvC.eq {B : Nat} {c : Cell} (h : DvC B c) : DvC (B * (c.rockCapacity + 1)) (equilibrated c) := by
  have d : Dv (B * (c.rockCapacity + 1)) (((c.rockCapacity : Rat) * c.rock + c.water) / ((c.rockCapacity + 1 : Nat) : Rat)) := ((h.1.nmul _).add h.2).div (by omega)
  exact ⟨d, d⟩
def capsOf (cells : List Cell) : List Nat := cells.map Cell.rockCapacity
def PP (cells : List Cell) : Nat := pr (cells.map fun c => c.rockCapacity + 1)
theorem PP_caps (cells : List Cell) : PP cells = pr ((capsOf cells).map fun k => k + 1) := by
  unfold PP capsOf
  rw [List.map_map]
  rfl
theorem Dv.le {B : Nat} {q : Rat} (h : Dv B q) {D : Nat} (k : ∃ k, B * k = D) : Dv D q := by
  obtain ⟨k, e⟩ := k
  rw [← e]
  exact h.mul k
theorem DvC.step {B : Nat} {c : Cell} {cells : List Cell} (h : DvC B c) (hm : c.rockCapacity + 1 ∈ cells.map fun c => c.rockCapacity + 1) : DvC (B * PP cells) (equilibrated c) := by
  obtain ⟨k, e⟩ := pr_dvd hm
  have d := h.eq
  have e' : ∃ k, B * (c.rockCapacity + 1) * k = B * PP cells := ⟨k, by rw [Nat.mul_assoc, e]; rfl⟩
  exact ⟨d.1.le e', d.2.le e'⟩
theorem mem_advanced {inj : Rat} {cells : List Cell} {c : Cell} (h : c ∈ advanced inj cells) : ∃ d ∈ cells, ∃ q, (q = inj ∨ ∃ e ∈ cells, q = e.water) ∧ c = equilibrated { d with water := q } := by
  unfold advanced at h
  obtain ⟨⟨d, q⟩, hd, rfl⟩ := List.mem_map.mp h
  have h1 := (List.of_mem_zip hd).1
  have h2 := (List.of_mem_zip hd).2
  refine ⟨d, h1, q, ?_, rfl⟩
  rcases List.mem_cons.mp h2 with e | e
  · exact .inl e
  · obtain ⟨d', hd', rfl⟩ := List.mem_map.mp e
    exact .inr ⟨d', hd', rfl⟩
theorem zip_caps : ∀ (cells : List Cell) (ws : List Rat), cells.length ≤ ws.length → capsOf ((List.zip cells ws).map fun p => equilibrated { p.1 with water := p.2 }) = capsOf cells
  | [], _, _ => rfl
  | c :: r, [], h => by simp at h
  | c :: r, w :: ws, h => by
    have ih := zip_caps r ws (by simpa using h)
    show c.rockCapacity :: _ = c.rockCapacity :: _
    exact congrArg _ ih
theorem caps_advanced (inj : Rat) (cells : List Cell) : capsOf (advanced inj cells) = capsOf cells := zip_caps _ _ (by rw [List.length_cons, List.length_map]; omega)
/-- the cells behind n steps -/
def adv (inj : Rat) : Nat → List Kqk1.Cell → List Kqk1.Cell
  | 0, c => c
  | k + 1, c => Kqk1.advanced inj (adv inj k c)
theorem caps_adv (inj : Rat) (cells : List Cell) : ∀ n, capsOf (adv inj n cells) = capsOf cells
  | 0 => rfl
  | n + 1 => (caps_advanced inj _).trans (caps_adv inj cells n)
theorem len_adv (inj : Rat) (cells : List Cell) (n : Nat) : (adv inj n cells).length = cells.length := by
  have h := congrArg List.length (caps_adv inj cells n)
  unfold capsOf at h
  rw [List.length_map, List.length_map] at h
  exact h
theorem good_adv {inj : Rat} {cells : List Cell} (i0 : 0 ≤ inj) (i1 : inj ≤ 300) (h : ∀ c ∈ cells, GoodC c) : ∀ n, ∀ c ∈ adv inj n cells, GoodC c
  | 0 => h
  | n + 1 => by
    intro c hc
    obtain ⟨d, hd, q, hq, rfl⟩ := mem_advanced hc
    have g := good_adv i0 i1 h n d hd
    refine GoodC.eq ⟨g.c1, g.c2, g.r0, g.r1, ?_, ?_⟩
    · rcases hq with rfl | ⟨e, he, rfl⟩
      · exact i0
      · exact (good_adv i0 i1 h n e he).w0
    · rcases hq with rfl | ⟨e, he, rfl⟩
      · exact i1
      · exact (good_adv i0 i1 h n e he).w1
theorem dv_adv {inj : Rat} {cells : List Cell} {B : Nat} (di : ∃ n : Nat, inj = (n : Rat)) (h : ∀ c ∈ cells, DvC B c) : ∀ n, ∀ c ∈ adv inj n cells, DvC (B * PP cells ^ n) c
  | 0 => by
    rw [Nat.pow_zero, Nat.mul_one]
    exact h
  | n + 1 => by
    intro c hc
    obtain ⟨d, hd, q, hq, rfl⟩ := mem_advanced hc
    have g := dv_adv di h n d hd
    have dq : Dv (B * PP cells ^ n) q := by
      rcases hq with rfl | ⟨e, he, rfl⟩
      · obtain ⟨m, rfl⟩ := di
        exact Dv.nat _ _
      · exact (dv_adv di h n e he).2
    have hm : d.rockCapacity + 1 ∈ cells.map fun c => c.rockCapacity + 1 := by
      have h1 : d.rockCapacity ∈ capsOf (adv inj n cells) := List.mem_map.mpr ⟨d, hd, rfl⟩
      rw [caps_adv] at h1
      obtain ⟨c', hc', e⟩ := List.mem_map.mp h1
      exact List.mem_map.mpr ⟨c', hc', by rw [e]⟩
    have s := DvC.step (c := { d with water := q }) (cells := cells) ⟨g.1, dq⟩ hm
    rw [Nat.pow_succ, ← Nat.mul_assoc]
    exact s
/-- one denominator for all -/
def B0 (cells : List Cell) : Nat := pr (cells.map fun c => c.rock.den * c.water.den)
theorem dv_start (cells : List Cell) : ∀ c ∈ cells, DvC (B0 cells) c := by
  intro c hc
  obtain ⟨k, e⟩ := pr_dvd (l := cells.map fun c => c.rock.den * c.water.den) (List.mem_map.mpr ⟨c, hc, rfl⟩)
  refine ⟨(dv_self c.rock).le ⟨c.water.den * k, ?_⟩, (dv_self c.water).le ⟨c.rock.den * k, ?_⟩⟩
  · rw [← Nat.mul_assoc]
    exact e
  · rw [← Nat.mul_assoc, Nat.mul_comm c.water.den]
    exact e
structure GoodL (cells : List Cell) : Prop where
  l1 : 1 ≤ cells.length
  l8 : cells.length ≤ 8
  g : ∀ c ∈ cells, GoodC c
  d : ∀ c ∈ cells, c.rock.den ≤ 10 ^ 40 ∧ c.water.den ≤ 10 ^ 40
theorem B0_pos (cells : List Cell) : 0 < B0 cells := by
  refine pr_pos _ fun x hx => ?_
  obtain ⟨c, hc, rfl⟩ := List.mem_map.mp hx
  exact Nat.mul_pos (Nat.pos_of_ne_zero c.rock.den_nz) (Nat.pos_of_ne_zero c.water.den_nz)
theorem PP_pos (cells : List Cell) : 0 < PP cells := by
  refine pr_pos _ fun x hx => ?_
  obtain ⟨c, hc, rfl⟩ := List.mem_map.mp hx
  exact Nat.succ_pos _
theorem GoodL.B0_lt {cells : List Cell} (h : GoodL cells) : B0 cells ≤ 2 ^ 2128 := by
  have e : B0 cells ≤ (2 ^ 266) ^ 8 := pr_le (by exact Nat.one_le_two_pow) _ _ (fun x hx => by
    obtain ⟨c, hc, rfl⟩ := List.mem_map.mp hx
    have d := h.d c hc
    have m := Nat.mul_le_mul d.1 d.2
    exact Nat.le_trans m (by decide)) (by rw [List.length_map]; exact h.l8)
  rw [← Nat.pow_mul] at e
  exact e
theorem GoodL.PP_lt {cells : List Cell} (h : GoodL cells) : PP cells ≤ 2 ^ 40 := by
  have e : PP cells ≤ (2 ^ 5) ^ 8 := pr_le (by decide) _ _ (fun x hx => by
    obtain ⟨c, hc, rfl⟩ := List.mem_map.mp hx
    have d := (h.g c hc).c2
    show c.rockCapacity + 1 ≤ 32
    omega) (by rw [List.length_map]; exact h.l8)
  rw [← Nat.pow_mul] at e
  exact e
theorem GoodL.BP_lt {cells : List Cell} (h : GoodL cells) {n : Nat} (hn : n ≤ 20) : B0 cells * PP cells ^ n < 2 ^ 2929 := by
  have e1 := h.B0_lt
  have e2 : PP cells ^ n ≤ (2 ^ 40) ^ 20 := Nat.le_trans (Nat.pow_le_pow_left h.PP_lt n) (Nat.pow_le_pow_right (by decide) hn)
  rw [← Nat.pow_mul] at e2
  have e3 := Nat.mul_le_mul e1 e2
  rw [← Nat.pow_add] at e3
  exact Nat.lt_of_le_of_lt e3 (Nat.pow_lt_pow_right (by decide) (by decide))
theorem BP_pos (cells : List Cell) (n : Nat) : 0 < B0 cells * PP cells ^ n := Nat.mul_pos (B0_pos cells) (Nat.pow_pos (PP_pos cells))
theorem fit_small {B : Nat} {q : Rat} (h : Dv B q) (hB : 0 < B) (hb : B < 2 ^ 4000) (l : -(4294967296 : Rat) ≤ q) (u : q ≤ 4294967296) : Fit 4400 q :=
  fit_of (M := 4294967296) (N := 4000) (m := 33) h hB hb (by decide) l u (by decide)
theorem lt4000 {B : Nat} (h : B < 2 ^ 2929) : B < 2 ^ 4000 := Nat.lt_of_lt_of_le h (Nat.pow_le_pow_right (by decide) (by decide))
theorem cell_fit {c : Cell} {B : Nat} (g : GoodC c) (d : DvC B c) (hB : 0 < B) (hb : B < 2 ^ 2929) : c.rockCapacity < 2 ^ 10 ∧ Fit 4400 c.rock ∧ Fit 4400 c.water := by
  have h1 := g.c2
  have r0 := g.r0
  have r1 := g.r1
  have w0 := g.w0
  have w1 := g.w1
  refine ⟨by omega, fit_small d.1 hB (lt4000 hb) ?_ ?_, fit_small d.2 hB (lt4000 hb) ?_ ?_⟩ <;> grind
end CF
namespace CF
open PySem PySem.Spec PyProof.Rows L2
open PySem.W (Codec)
def outs (inj : Rat) (cells : List Kqk1.Cell) (j : Nat) : Rat := Kqk1.outlet (adv inj j cells)
/-- what the first n parcels sum to -/
def tot (inj : Rat) (cells : List Kqk1.Cell) : Nat → Rat
  | 0 => 0
  | n + 1 => tot inj cells n + outs inj cells n
def injS (R : Kqk1.Reservoir) : Nat → Rat
  | 0 => R.injectedSum
  | n + 1 => injS R n + R.injection
def afterN (R : Kqk1.Reservoir) (n : Nat) : Kqk1.Reservoir := ⟨adv R.injection n R.cells, R.injection, injS R n, R.producedSum + tot R.injection R.cells n, R.producedCount + n, R.saved⟩
def outL (inj : Rat) (cells : List Kqk1.Cell) (n : Nat) : List Rat := (List.range n).map (outs inj cells)
theorem outL_more (inj : Rat) (cells : List Kqk1.Cell) (n : Nat) : outL inj cells (n + 1) = outL inj cells n ++ [outs inj cells n] := by
  unfold outL
  rw [List.range_succ, List.map_append]
  rfl
structure RunFit (inj : Rat) (cells : List Kqk1.Cell) (n : Nat) : Prop where
  ne : ∀ j, j ≤ n → adv inj j cells ≠ []
  len : ∀ j, j ≤ n → (adv inj j cells).length ≤ 1000
  fit : ∀ j, j ≤ n → CellsFit (adv inj j cells)
  ij : Fit 4400 inj
  out : ∀ j, j ≤ n → Fit 4400 (outs inj cells j)
structure ManyFit (R : Kqk1.Reservoir) (n : Nat) : Prop where
  run : RunFit R.injection R.cells n
  inj : ∀ j, j ≤ n → Fit 4400 (injS R j)
  tot : ∀ j, j ≤ n → Fit 4400 (tot R.injection R.cells j)
  sum : Fit 4400 R.producedSum
def temps (cells : List Kqk1.Cell) : List Rat := cells.map Kqk1.Cell.rock ++ cells.map Kqk1.Cell.water
def smallR (R : Kqk1.Reservoir) : Bool := (temps R.cells ++ [R.injectedSum, R.producedSum]).all small
def spREq (C CP CD : Addr) : Sp := fun vs H Q E => ∃ r fa R, vs = [.ref r] ∧ Res C CP H r fa R ∧ CellsFit R.cells ∧ R.cells.length ≤ 1000 ∧
  ((temps (R.cells.map Kqk1.equilibrated)).all small = true → ∀ H' fa', Keep fa H H' → Res C CP H' r fa' { R with cells := R.cells.map Kqk1.equilibrated } → (∀ x ∈ fa', x ∈ fa ∨ H x = none) → Q .non H') ∧
  ((temps (R.cells.map Kqk1.equilibrated)).all small = false → ∀ H', Same H H' → E (.ref CD) none H')
def spRFore (C CP CO : Addr) : Sp := fun vs H Q E => ∃ r fa R, ∃ n : Nat, vs = [.ref r, .int (n : Int)] ∧ Res C CP H r fa R ∧ (20 < n → E (.ref CO) none H) ∧
  (n ≤ 20 → RunFit R.injection R.cells n ∧ ∀ H' l ws, Same H H' → H l = none → H' l = some (.lst ws) → Frs H' ws (outL R.injection R.cells n) → Q (.ref l) H')
def spRMany (C CP CO CD : Addr) : Sp := fun vs H Q E => ∃ r fa R, ∃ n : Nat, vs = [.ref r, .int (n : Int)] ∧ Res C CP H r fa R ∧ (n < 1 ∨ 20 < n → E (.ref CO) none H) ∧
  (1 ≤ n → n ≤ 20 → ManyFit R n ∧
    (smallR (afterN R n) = true → ∀ H' fa' v, Keep fa H H' → Res C CP H' r fa' (afterN R n) → (∀ x ∈ fa', x ∈ fa ∨ H x = none) → FrA H' v (tot R.injection R.cells n) → Q (.ref v) H') ∧
    (smallR (afterN R n) = false → ∀ H', Same H H' → E (.ref CD) none H'))
/-- called without a number: one step -/
def spRAdv (C CP CD : Addr) : Sp := fun vs H Q E => ∃ r fa R, vs = [.ref r] ∧ Res C CP H r fa R ∧ ManyFit R 1 ∧
    (smallR (afterN R 1) = true → ∀ H' fa' v, Keep fa H H' → Res C CP H' r fa' (afterN R 1) → (∀ x ∈ fa', x ∈ fa ∨ H x = none) → FrA H' v (tot R.injection R.cells 1) → Q (.ref v) H') ∧
    (smallR (afterN R 1) = false → ∀ H', Same H H' → E (.ref CD) none H')
theorem fresh_keep {H H1 H2 : Hp} {fp : List Addr} (s : Same H H1) (k : Keep fp H1 H2) (f : ∀ x ∈ fp, H x = none) : Same H H2 := fun b o e => k b o (s b o e) fun z => by
  rw [f b z] at e
  cases e
theorem fresh_sub {H H1 : Hp} {fp fp' : List Addr} (s : Same H H1) (f : ∀ x ∈ fp, H x = none) (sub : ∀ x ∈ fp', x ∈ fp ∨ H1 x = none) : ∀ x ∈ fp', H x = none := fun x hx => by
  rcases sub x hx with h | h
  · exact f x h
  · exact s.free h
section
variable {P : Program} {w : World} {K : PySem.W.Frag} {mg : Str → Option Value} {base : Heap} {C CP CO CC CD : Addr}
theorem scRE : FnScope ["self", "ahead"] ["self"] (defScope sREq) := ⟨rfl, rfl, rfl, by decide +kernel, rfl, by decide +kernel, by decide +kernel⟩
theorem prof_obj {H : Hp} {p : Addr} {fp : List Addr} {cells : List Kqk1.Cell} (h : Prof CP H p fp cells) : ∃ dx lc lr lw, H p = some (.ins CP dx (pF lc lr lw)) := by
  obtain ⟨lc, lr, lw, xs, ws, efp, ⟨⟨dx', ho'⟩, _⟩⟩ := h
  exact ⟨_, _, _, _, ho'⟩
theorem ok_req {f : Addr} {fd : FuncData} (F : Fun K "equilibrate" "Reservoir.equilibrate" sREq f fd) (T : RTxt K mg C) (TP : PTxt K mg CP) (GT : MetOk CX0 P w K mg base 3 CP "twin" ["self"] (spTwin CP)) (GE : MetOk CX0 P w K mg base 4 CP "equilibrate" ["self"] (spEq CP))
    (GM : MetOk CX0 P w K mg base 1 CP "temperatures" ["self"] (spTemps CP)) (GD : DefOk (L2.CX P w) P w K mg base 1 "check_denominators" ["fractions"] (spDen CD)) : FnOk P w K mg base (L2.CX P w) 5 f fd ["self"] (spREq C CP CD) := by
  refine F.okX scRE (fun vs H Q E h => ?_) (fun cdv A outer s H vs Q E hr h => ⟨_, pss_cons (ps_set (i := 1) scRE.nd rfl (Or.inl rfl) (pe_m0' GT TP.cl hr (by decide) pass0 (pe_fld (pv 0) rfl)))
      (pss_cons (ps_expr (pe_m0' GE TP.cl hr (by decide) pass0 (pv 1)))
      (pss_cons (ps_expr (pe_d GD hr (by decide) rfl (passE (takes_of rfl rfl rfl rfl)) (pa_cons (pe_m0' GM TP.cl hr (by decide) pass0 (pv 1)) pa_nil)))
      (pss_one (ps_fld (pv 0) (pv 1) rfl)))), ?_⟩)
  · obtain ⟨r, fa, R, rfl, _⟩ := h
    rfl
  · obtain ⟨r, fa, R, rfl, hR, cf, sm, kq, ke⟩ := h
    obtain ⟨p, ii, a, b, sv, fp, fs, rfl, hL⟩ := id hR
    obtain ⟨dx, ob⟩ := hL.obj
    obtain ⟨dp, lc, lr, lw, op⟩ := prof_obj hL.prof
    refine ⟨_, rfl, r, C, dx, _, _, rfl, ob, T.cl, T.nP, rF_p, p, dp, _, rfl, op, pF_none (by decide +kernel), p, fp, R.cells, rfl, hL.prof, fun H1 p' fp' s1 pr1 f1 => ?_⟩
    obtain ⟨dp1, lc1, lr1, lw1, op1⟩ := prof_obj pr1
    refine ⟨_, rfl, p', dp1, _, rfl, op1, pF_none (by decide +kernel), p', fp', R.cells, rfl, pr1, cf, sm, fun H2 fp2 k2 pr2 sub2 => ?_⟩
    have s2 := fresh_keep s1 k2 f1
    have f2 := fresh_sub s1 f1 sub2
    obtain ⟨dp2, lc2, lr2, lw2, op2⟩ := prof_obj pr2
    refine ⟨_, rfl, p', dp2, _, rfl, op2, pF_none (by decide +kernel), p', fp2, _, rfl, pr2, by rw [List.length_map]; exact sm, fun H3 l vs' s3 hl h3 fr3 => ?_⟩
    have s03 := s2.trans s3
    refine ⟨l, vs', _, rfl, h3, fr3, fun c => ?_, fun c => ke c H3 s03⟩
    refine ⟨_, rfl, _, rfl, r, C, dx, _, rfl, s03 _ _ ob, T.cl, T.nP, rF_len, ?_⟩
    rw [rF_putp]
    have k4 : Keep [r] H3 (upd H3 r (.ins C dx (rF p' ii a b (R.producedCount : Int) sv))) := Keep.put (by simp)
    have k04 : Keep [r] H (upd H3 r (.ins C dx (rF p' ii a b (R.producedCount : Int) sv))) := (Keep.of_same s03).trans k4
    have k05 : Keep (r :: fp) H (upd H3 r (.ins C dx (rF p' ii a b (R.producedCount : Int) sv))) := k04.mono fun x hx => by
      have : x = r := by simpa using hx
      rw [this]
      simp
    have nt : ∀ b ∈ [r], ∀ o, H b = some o → isTup o = false := by
      intro x hx o e
      have z : x = r := by simpa using hx
      rw [z, ob] at e
      cases e
      rfl
    have nt3 : ∀ b ∈ [r], ∀ o, H3 b = some o → isTup o = false := by
      intro x hx o e
      have z : x = r := by simpa using hx
      rw [z, s03 _ _ ob] at e
      cases e
      rfl
    have rn : r ∉ fp2 := fun z => by
      rw [f2 r z] at ob
      cases ob
    have hL' : ResL C CP (upd H3 r (.ins C dx (rF p' ii a b (R.producedCount : Int) sv))) r p' ii a b sv fp2 fs { R with cells := R.cells.map Kqk1.equilibrated } :=
      hL.build k05 ⟨dx, upd_same⟩ ((pr2.same s3).keep k4 nt3 (apart_r rn)) (fun x hx => .inr (f2 x hx)) (hL.inj.keep k04 nt) (hL.si.keep k04 nt) (hL.sp.keep k04 nt) rfl
    exact kq c _ _ k05.fa hL'.res (subFa fun x hx => .inr (f2 x hx))
theorem scRF : FnScope ["self", "count", "ahead", "parcels", "step"] ["self", "count"] (defScope sRFore) := ⟨rfl, rfl, rfl, by decide +kernel, rfl, by decide +kernel, by decide +kernel⟩
theorem ok_rfore {f : Addr} {fd : FuncData} (F : Fun K "forecast" "Reservoir.forecast" sRFore f fd) (T : RTxt K mg C) (TP : PTxt K mg CP) (GT : MetOk CX0 P w K mg base 3 CP "twin" ["self"] (spTwin CP)) (GO : MetOk CX0 P w K mg base 5 CP "move_on" ["self", "entering"] (spMove CP))
    (GR : DefOk (L2.CX P w) P w K mg base 1 "check_range" ["number", "least", "most"] (spRange CO)) : FnOk P w K mg base (L2.CX P w) 6 f fd ["self", "count"] (spRFore C CP CO) := by
  refine F.okX scRF (fun vs H Q E h => ?_) (fun cdv A outer s H vs Q E hr h => ⟨_, pss_cons (ps_expr (pe_d GR hr (by decide) rfl (passE (takes_of rfl rfl rfl rfl)) (pa_cons (pv 1) (pa_cons pe_int (pa_cons (pe_k1 T.m5 rfl) pa_nil)))))
      (pss_cons (ps_set (i := 2) scRF.nd rfl (Or.inl rfl) (pe_m0' GT TP.cl hr (by decide) pass0 (pe_fld (pv 0) rfl)))
      (pss_cons (ps_set (i := 3) scRF.nd rfl (Or.inl rfl) (pe_lst pa_nil))
      (pss_cons (ps_for (passes_of rfl) rfl (pi_range1 rfl T.gR (pa_cons (pv 1) pa_nil)) (pg_name (i := 4) scRF.nd rfl (Or.inl rfl))
        (pss_one (ps_expr (pe_bm PySem.F.plainAttrs_list PySem.F.slot_list_append PySem.F.type_list_append mt_append (pv 3) (pa_cons (pe_m GO TP.cl hr (by decide) pass0 (pv 2) (pa_cons (pe_fld (pv 0) rfl) pa_nil)) pa_nil)))))
      (pss_one (ps_ret (pv 3)))))), ?_⟩)
  · obtain ⟨r, fa, R, n, rfl, _⟩ := h
    rfl
  · obtain ⟨r, fa, R, n, rfl, hR, ho, k⟩ := h
    obtain ⟨p, ii, a, b, sv, fp, fs, rfl, hL⟩ := id hR
    obtain ⟨dx, ob⟩ := hL.obj
    obtain ⟨dp, lc, lr, lw, op⟩ := prof_obj hL.prof
    refine ⟨_, rfl, (n : Int), 0, 20, rfl, fun c => ho (by omega), fun c1 c2 => ?_⟩
    have hn : n ≤ 20 := by omega
    obtain ⟨rf, k⟩ := k hn
    refine ⟨_, rfl, r, C, dx, _, _, rfl, ob, T.cl, T.nP, rF_p, p, dp, _, rfl, op, pF_none (by decide +kernel), p, fp, R.cells, rfl, hL.prof, fun H1 p' fp' s1 pr1 f1 => ?_⟩
    refine ⟨by show 0 ≤ sizeLine; decide, fun m hm => ?_⟩
    have sm : Same H1 (upd H1 m (.lst [])) := same_upd hm
    have mf : H m = none := s1.free hm
    have mfp : m ∉ fp' := fun z => by
      obtain ⟨o, e, _⟩ := pr1.noTup m z
      rw [hm] at e
      cases e
    refine ⟨_, rfl, (n : Int), rfl, by omega, by omega, for_range (lo := 0) (n := (n : Int).toNat) (fun j σ H' => ∃ v4 ws fpj, σ = [some (.ref r), some (.int (n : Int)), some (.ref p'), some (.ref m), v4] ∧ Same H H' ∧ H' m = some (.lst ws) ∧ Frs H' ws (outL R.injection R.cells j) ∧ Prof CP H' p' fpj (adv R.injection j R.cells) ∧ (∀ x ∈ fpj, H x = none) ∧ m ∉ fpj)
      ⟨none, [], fp', rfl, s1.trans sm, upd_same, trivial, pr1.same sm, f1, mfp⟩ ?_ ?_⟩
    · rintro j σ H' hj ⟨v4, ws, fpj, rfl, s2, hm2, fr2, pr2, f2, mf2⟩
      rw [Int.toNat_natCast] at hj
      obtain ⟨dp2, lc2, lr2, lw2, op2⟩ := prof_obj pr2
      have lws : ws.length = j := by
        rw [fr2.length]
        unfold outL
        rw [List.length_map, List.length_range]
      refine ⟨_, rfl, .inl ⟨rfl, _, .inl (.inl hm2)⟩, _, rfl, p', dp2, _, rfl, op2, pF_none (by decide +kernel), _, rfl, r, C, dx, _, _, rfl, s2 _ _ ob, T.cl, T.nI, rF_i, p', fpj, _, ii, R.injection, rfl, pr2, hL.inj.same s2, rf.ne j (by omega), rf.fit j (by omega), rf.ij, rf.len j (by omega), fun H3 fp3 q k3 pr3 sub3 fq => ?_⟩
      have s3 := fresh_keep s2 k3 f2
      have f3 := fresh_sub s2 f2 sub3
      have m3 : H3 m = some (.lst ws) := k3 _ _ hm2 mf2
      have mf3 : m ∉ fp3 := fun z => by
        rcases sub3 m z with h | h
        · exact mf2 h
        · rw [hm2] at h
          cases h
      refine ⟨m, ws, _, rfl, rfl, m3, by show ws.length < 16777216; omega, ?_⟩
      have k4 : Keep [m] H3 (upd H3 m (.lst (ws ++ [.ref q]))) := Keep.put (by simp)
      have nt3 : ∀ b ∈ [m], ∀ o, H3 b = some o → isTup o = false := by
        intro x hx o e
        have z : x = m := by simpa using hx
        rw [z, m3] at e
        cases e
        rfl
      refine ⟨_, _, fp3, rfl, fun x o e => k4 x o (s3 x o e) (by simpa using ne_of_none e mf), upd_same, ?_, pr3.keep k4 nt3 (apart_r mf3), f3, mf3⟩
      rw [outL_more]
      exact Frs.append (fr2.mono fun a q f => (f.keep k3 (nt_of pr2.noTup)).keep k4 nt3) (Frs.one (fq.keep k4 nt3))
    · rintro σ H' ⟨v4, ws, fpj, rfl, s2, hm2, fr2, pr2, f2, mf2⟩
      rw [Int.toNat_natCast] at fr2
      exact ⟨_, rfl, k H' m ws s2 mf hm2 fr2⟩
end
end CF
namespace CF
open PySem PySem.Spec PyProof.Rows L2
open PySem.W (Codec)
section
variable {P : Program} {w : World} {K : PySem.W.Frag} {mg : Str → Option Value} {base : Heap} {C CP CO CC CD : Addr}
theorem scRM : FnScope ["self", "steps", "ahead", "injected", "produced", "step", "produced_sum"] ["self", "steps"] (defScope sRMany) := ⟨rfl, rfl, rfl, by decide +kernel, rfl, by decide +kernel, by decide +kernel⟩
theorem ok_rmany {f : Addr} {fd : FuncData} (F : Fun K "advance_many" "Reservoir.advance_many" sRMany f fd) (T : RTxt K mg C) (TP : PTxt K mg CP) (GT : MetOk CX0 P w K mg base 3 CP "twin" ["self"] (spTwin CP)) (GO : MetOk CX0 P w K mg base 5 CP "move_on" ["self", "entering"] (spMove CP))
    (GM : MetOk CX0 P w K mg base 1 CP "temperatures" ["self"] (spTemps CP)) (GW : DefOk CX0 P w K mg base 1 "whole" ["number"] spWhole) (GA : DefOk CX0 P w K mg base 4 "add" ["first", "second"] spAdd)
    (GR : DefOk (L2.CX P w) P w K mg base 1 "check_range" ["number", "least", "most"] (spRange CO)) (GD : DefOk (L2.CX P w) P w K mg base 1 "check_denominators" ["fractions"] (spDen CD)) : FnOk P w K mg base (L2.CX P w) 6 f fd ["self", "steps"] (spRMany C CP CO CD) := by
  refine F.okX scRM (fun vs H Q E h => ?_) (fun cdv A outer s H vs Q E hr h => ⟨_, pss_cons (ps_expr (pe_d GR hr (by decide) rfl (passE (takes_of rfl rfl rfl rfl)) (pa_cons (pv 1) (pa_cons pe_int (pa_cons (pe_k1 T.m4 rfl) pa_nil)))))
      (pss_cons (ps_set (i := 2) scRM.nd rfl (Or.inl rfl) (pe_m0' GT TP.cl hr (by decide) pass0 (pe_fld (pv 0) rfl)))
      (pss_cons (ps_set (i := 3) scRM.nd rfl (Or.inl rfl) (pe_fld (pv 0) rfl))
      (pss_cons (ps_set (i := 4) scRM.nd rfl (Or.inl rfl) (pe_d GW hr (by decide) rfl pass0 (pa_cons pe_int pa_nil)))
      (pss_cons (ps_for (passes_of rfl) rfl (pi_range1 rfl T.gR (pa_cons (pv 1) pa_nil)) (pg_name (i := 5) scRM.nd rfl (Or.inl rfl))
        (pss_cons (ps_set (i := 3) scRM.nd rfl (Or.inl rfl) (pe_d GA hr (by decide) rfl pass0 (pa_cons (pv 3) (pa_cons (pe_fld (pv 0) rfl) pa_nil))))
        (pss_one (ps_set (i := 4) scRM.nd rfl (Or.inl rfl) (pe_d GA hr (by decide) rfl pass0 (pa_cons (pv 4) (pa_cons (pe_m GO TP.cl hr (by decide) pass0 (pv 2) (pa_cons (pe_fld (pv 0) rfl) pa_nil)) pa_nil)))))))
      (pss_cons (ps_set (i := 6) scRM.nd rfl (Or.inl rfl) (pe_d GA hr (by decide) rfl pass0 (pa_cons (pe_fld (pv 0) rfl) (pa_cons (pv 4) pa_nil))))
      (pss_cons (ps_expr (pe_d GD hr (by decide) rfl (passE (takes_of rfl rfl rfl rfl)) (pa_cons (pe_op op_cat (pe_m0' GM TP.cl hr (by decide) pass0 (pv 2)) (pe_lst (pa_cons (pv 3) (pa_cons (pv 6) pa_nil)))) pa_nil)))
      (pss_cons (ps_fld (pv 0) (pv 2) rfl)
      (pss_cons (ps_fld (pv 0) (pv 3) rfl)
      (pss_cons (ps_fld (pv 0) (pv 6) rfl)
      (pss_cons (ps_fldaug (pv 0) (pv 1) in_add)
      (pss_one (ps_ret (pv 4))))))))))))), ?_⟩)
  · obtain ⟨r, fa, R, n, rfl, _⟩ := h
    rfl
  · obtain ⟨r, fa, R, n, rfl, hR, ho, k⟩ := h
    obtain ⟨p, ii, a, b, sv, fp, fs, rfl, hL⟩ := id hR
    obtain ⟨dx, ob⟩ := hL.obj
    obtain ⟨dp, lc, lr, lw, op⟩ := prof_obj hL.prof
    refine ⟨_, rfl, (n : Int), 1, 20, rfl, fun c => ho (by omega), fun c1 c2 => ?_⟩
    obtain ⟨mf, kq, ke⟩ := k (by omega) (by omega)
    refine ⟨_, rfl, r, C, dx, _, _, rfl, ob, T.cl, T.nP, rF_p, p, dp, _, rfl, op, pF_none (by decide +kernel), p, fp, R.cells, rfl, hL.prof, fun H1 p' fp' s1 pr1 f1 => ?_⟩
    refine ⟨_, rfl, r, C, dx, _, _, rfl, s1 _ _ ob, T.cl, T.nA, rF_a, 0, rfl, fun H2 z2 s2 fz2 => ?_⟩
    have s02 := s1.trans s2
    refine ⟨_, rfl, (n : Int), rfl, by omega, by omega, for_range (lo := 0) (n := (n : Int).toNat) (fun j σ H' => ∃ v5 ai ap fpj, σ = [some (.ref r), some (.int (n : Int)), some (.ref p'), some (.ref ai), some (.ref ap), v5, none] ∧ Same H H' ∧ FrA H' ai (injS R j) ∧ FrA H' ap (tot R.injection R.cells j) ∧ Prof CP H' p' fpj (adv R.injection j R.cells) ∧ (∀ x ∈ fpj, H x = none))
      ⟨none, a, z2, fp', rfl, s02, hL.si.same s02, fz2, pr1.same s2, f1⟩ ?_ ?_⟩
    · rintro j σ H' hj ⟨v5, ai, ap, fpj, rfl, s3, fi3, ft3, pr3, f3⟩
      rw [Int.toNat_natCast] at hj
      refine ⟨_, rfl, _, rfl, r, C, dx, _, _, rfl, s3 _ _ ob, T.cl, T.nI, rF_i, ai, ii, _, _, rfl, fi3, hL.inj.same s3, mf.inj j (by omega), mf.run.ij, fun H4 a4 s4 fr4 => ?_⟩
      have s04 := s3.trans s4
      obtain ⟨dp4, lc4, lr4, lw4, op4⟩ := prof_obj (pr3.same s4)
      refine ⟨_, rfl, _, rfl, p', dp4, _, rfl, op4, pF_none (by decide +kernel), _, rfl, r, C, dx, _, _, rfl, s04 _ _ ob, T.cl, T.nI, rF_i, p', fpj, _, ii, R.injection, rfl, pr3.same s4, hL.inj.same s04, mf.run.ne j (by omega), mf.run.fit j (by omega), mf.run.ij, mf.run.len j (by omega), fun H5 fp5 q k5 pr5 sub5 fq => ?_⟩
      have s05 := fresh_keep s04 k5 f3
      have f5 := fresh_sub s04 f3 sub5
      have nt4 := nt_of (pr3.same s4).noTup
      refine ⟨ap, q, _, _, rfl, (ft3.same s4).keep k5 nt4, fq, mf.tot j (by omega), mf.run.out j (by omega), fun H6 a6 s6 fr6 => ?_⟩
      exact ⟨_, a4, a6, fp5, rfl, s05.trans s6, (fr4.keep k5 nt4).same s6, fr6, pr5.same s6, f5⟩
    · rintro σ H' ⟨v5, ai, ap, fpj, rfl, s3, fi3, ft3, pr3, f3⟩
      rw [Int.toNat_natCast] at fi3 ft3 pr3
      refine ⟨_, rfl, r, C, dx, _, _, rfl, s3 _ _ ob, T.cl, T.nB, rF_b, _, rfl, b, ap, _, _, rfl, hL.sp.same s3, ft3, mf.sum, mf.tot n (by omega), fun H4 a4 s4 fr4 => ?_⟩
      have s04 := s3.trans s4
      obtain ⟨dp4, lc4, lr4, lw4, op4⟩ := prof_obj (pr3.same s4)
      refine ⟨_, rfl, p', dp4, _, rfl, op4, pF_none (by decide +kernel), p', fpj, _, rfl, pr3.same s4, mf.run.len n (by omega), fun H5 l ws s5 hl h5 fr5 => ?_⟩
      refine ⟨_, rfl, _, rfl, by show 2 ≤ sizeLine; decide, fun l2 hl2 => ?_⟩
      have s6 : Same H5 (upd H5 l2 (.lst [.ref ai, .ref a4])) := same_upd hl2
      have lenw : ws.length ≤ 2000 := by
        have e1 := fr5.length
        have e2 := mf.run.len n (by omega)
        rw [List.length_append, List.length_map, List.length_map] at e1
        omega
      refine ⟨l, l2, ws, _, rfl, rfl, s6 _ _ h5, upd_same, by show ws.length + 2 ≤ 16777216; omega, fun l3 hl3 => ?_⟩
      have s7 : Same (upd H5 l2 (.lst [.ref ai, .ref a4])) (upd (upd H5 l2 (.lst [.ref ai, .ref a4])) l3 (.lst (ws ++ [.ref ai, .ref a4]))) := same_upd hl3
      have g7 : (upd (upd H5 l2 (.lst [.ref ai, .ref a4])) l3 (.lst (ws ++ [.ref ai, .ref a4]))) l3 = some (.lst (ws ++ [.ref ai, .ref a4])) := upd_same
      have s57 := s6.trans s7
      generalize (upd (upd H5 l2 (.lst [.ref ai, .ref a4])) l3 (.lst (ws ++ [.ref ai, .ref a4]))) = H7 at g7 s57 ⊢
      have s47 := s5.trans s57
      have s07 := s04.trans s47
      have fi7 := (fi3.same s4).same s47
      have f47 := fr4.same s47
      have all : Frs H7 (ws ++ [.ref ai, .ref a4]) (temps (adv R.injection n R.cells) ++ [injS R n, R.producedSum + tot R.injection R.cells n]) :=
        Frs.append (fr5.mono fun a q f => f.same s57) ⟨⟨_, rfl, fi7⟩, ⟨_, rfl, f47⟩, trivial⟩
      refine ⟨l3, _, _, rfl, g7, all, fun c => ?_, fun c => ke c H7 s07⟩
      refine ⟨_, rfl, _, rfl, r, C, dx, _, rfl, s07 _ _ ob, T.cl, T.nP, rF_len, ?_⟩
      rw [rF_putp]
      refine ⟨_, rfl, _, rfl, r, C, dx, _, rfl, upd_same, T.cl, T.nA, rF_len, ?_⟩
      rw [rF_puta, upd_upd]
      refine ⟨_, rfl, _, rfl, r, C, dx, _, rfl, upd_same, T.cl, T.nB, rF_len, ?_⟩
      rw [rF_putb, upd_upd]
      refine ⟨_, rfl, r, C, dx, _, _, rfl, upd_same, T.cl, T.nN, rF_n, _, rfl, _, _, rfl, rfl, dx, _, upd_same, rF_len, ?_⟩
      rw [rF_putn, upd_upd]
      have en : (R.producedCount : Int) + (n : Int) = ((R.producedCount + n : Nat) : Int) := by omega
      rw [en]
      have k8 : Keep [r] H7 (upd H7 r (.ins C dx (rF p' ii ai a4 ((R.producedCount + n : Nat) : Int) sv))) := Keep.put (by simp)
      have k08 : Keep [r] H (upd H7 r (.ins C dx (rF p' ii ai a4 ((R.producedCount + n : Nat) : Int) sv))) := (Keep.of_same s07).trans k8
      have k09 : Keep (r :: fp) H (upd H7 r (.ins C dx (rF p' ii ai a4 ((R.producedCount + n : Nat) : Int) sv))) := k08.mono fun x hx => by
        have : x = r := by simpa using hx
        rw [this]
        simp
      have nt : ∀ b ∈ [r], ∀ o, H b = some o → isTup o = false := by
        intro x hx o e
        have z : x = r := by simpa using hx
        rw [z, ob] at e
        cases e
        rfl
      have nt7 : ∀ b ∈ [r], ∀ o, H7 b = some o → isTup o = false := by
        intro x hx o e
        have z : x = r := by simpa using hx
        rw [z, s07 _ _ ob] at e
        cases e
        rfl
      have rn : r ∉ fpj := fun z => by
        rw [f3 r z] at ob
        cases ob
      have hL' : ResL C CP (upd H7 r (.ins C dx (rF p' ii ai a4 ((R.producedCount + n : Nat) : Int) sv))) r p' ii ai a4 sv fpj fs (afterN R n) :=
        hL.build k09 ⟨dx, upd_same⟩ (((pr3.same s4).same s47).keep k8 nt7 (apart_r rn)) (fun x hx => .inr (f3 x hx)) (hL.inj.keep k08 nt) (fi7.keep k8 nt7) (f47.keep k8 nt7) rfl
      exact ⟨_, rfl, kq c _ _ ap k09.fa hL'.res (subFa fun x hx => .inr (f3 x hx)) (((ft3.same s4).same s47).keep k8 nt7)⟩
theorem scRAd : FnScope ["self"] ["self"] (defScope sRAdv) := ⟨rfl, rfl, rfl, by decide +kernel, rfl, by decide +kernel, by decide +kernel⟩
theorem ok_radv {f : Addr} {fd : FuncData} (F : Fun K "advance" "Reservoir.advance" sRAdv f fd) (T : RTxt K mg C) (G : MetOk (L2.CX P w) P w K mg base 6 C "advance_many" ["self", "steps"] (spRMany C CP CO CD)) : FnOk P w K mg base (L2.CX P w) 7 f fd ["self"] (spRAdv C CP CD) := by
  refine F.okX scRAd (fun vs H Q E h => ?_) (fun cdv A outer s H vs Q E hr h => ⟨_, pss_one (ps_ret (pe_m G T.cl hr (by decide) (passE (takes_of rfl rfl rfl rfl)) (pv 0) (pa_cons pe_int pa_nil))), ?_⟩)
  · obtain ⟨r, fa, R, rfl, _⟩ := h
    rfl
  · obtain ⟨r, fa, R, rfl, hR, mf, kq, ke⟩ := h
    obtain ⟨p, ii, a, b, sv, fp, fs, rfl, hL⟩ := id hR
    obtain ⟨dx, ob⟩ := hL.obj
    exact ⟨_, rfl, r, dx, _, rfl, ob, rF_none (by decide +kernel), r, _, R, 1, rfl, hR, fun c => by omega, fun _ _ => ⟨mf, kq, ke⟩⟩
end
end CF
namespace CF
open Kqk1
/-- what every reservoir keeps, behind m calls -/
structure GoodR (m : Nat) (R : Reservoir) : Prop where
  l : GoodL R.cells
  inj : ∃ n : Nat, n ≤ 300 ∧ R.injection = (n : Rat)
  sd : R.injectedSum.den ≤ 10 ^ 40
  s0 : 0 ≤ R.injectedSum
  s1 : R.injectedSum ≤ 6000 * (m : Rat)
  pd : R.producedSum.den ≤ 10 ^ 40
  p0 : 0 ≤ R.producedSum
  p1 : R.producedSum ≤ 6000 * (m : Rat)
  sv : ∀ l, R.saved = some l → GoodL l
theorem nat_rat {a b : Nat} (h : a ≤ b) : (a : Rat) ≤ (b : Rat) := Rat.natCast_le_natCast.mpr h
theorem GoodR.i0 {m : Nat} {R : Reservoir} (h : GoodR m R) : 0 ≤ R.injection := by
  obtain ⟨n, hn, e⟩ := h.inj
  rw [e]
  exact Rat.natCast_nonneg
theorem GoodR.i1 {m : Nat} {R : Reservoir} (h : GoodR m R) : R.injection ≤ 300 := by
  obtain ⟨n, hn, e⟩ := h.inj
  rw [e]
  exact nat_rat hn
theorem GoodR.ij {m : Nat} {R : Reservoir} (h : GoodR m R) : ∃ n : Nat, R.injection = (n : Rat) := by
  obtain ⟨n, hn, e⟩ := h.inj
  exact ⟨n, e⟩
theorem GoodL.ne {cells : List Cell} (h : GoodL cells) : cells ≠ [] := by
  intro e
  have := h.l1
  rw [e] at this
  simp at this
theorem outlet_mem {cells : List Cell} (h : cells ≠ []) : ∃ c ∈ cells, outlet cells = c.water := by
  unfold outlet
  cases e : cells.getLast? with
  | none => exact absurd (List.getLast?_eq_none_iff.mp e) h
  | some c => exact ⟨c, List.mem_of_getLast? e, rfl⟩
section
variable {m : Nat} {R : Reservoir}
theorem adv_ne (h : GoodR m R) (j : Nat) : adv R.injection j R.cells ≠ [] := by
  intro e
  have := len_adv R.injection R.cells j
  rw [e] at this
  have h1 := h.l.l1
  simp at this
  omega
theorem adv_good (h : GoodR m R) (j : Nat) : ∀ c ∈ adv R.injection j R.cells, GoodC c := good_adv h.i0 h.i1 h.l.g j
theorem adv_dv (h : GoodR m R) (j : Nat) : ∀ c ∈ adv R.injection j R.cells, DvC (B0 R.cells * PP R.cells ^ j) c := dv_adv h.ij (dv_start R.cells) j
theorem outs_dv (h : GoodR m R) (j : Nat) : Dv (B0 R.cells * PP R.cells ^ j) (outs R.injection R.cells j) ∧ 0 ≤ outs R.injection R.cells j ∧ outs R.injection R.cells j ≤ 300 := by
  obtain ⟨c, hc, e⟩ := outlet_mem (adv_ne h j)
  unfold outs
  rw [e]
  have g := adv_good h j c hc
  exact ⟨(adv_dv h j c hc).2, g.w0, g.w1⟩
theorem tot_dv (h : GoodR m R) : ∀ j, Dv (B0 R.cells * PP R.cells ^ j) (tot R.injection R.cells j) ∧ 0 ≤ tot R.injection R.cells j ∧ tot R.injection R.cells j ≤ 300 * (j : Rat)
  | 0 => ⟨Dv.nat _ 0, by unfold tot; exact Rat.le_refl, by
    show (0 : Rat) ≤ 300 * ((0 : Nat) : Rat)
    have : ((0 : Nat) : Rat) = 0 := rfl
    rw [this]
    grind⟩
  | j + 1 => by
    obtain ⟨a, b, c⟩ := tot_dv h j
    obtain ⟨d, e, f⟩ := outs_dv h j
    have x : Dv (B0 R.cells * PP R.cells ^ (j + 1)) (tot R.injection R.cells j + outs R.injection R.cells j) := by
      rw [Nat.pow_succ, ← Nat.mul_assoc]
      exact (a.add d).mul _
    have hc : ((j + 1 : Nat) : Rat) = (j : Rat) + 1 := by push_cast; rfl
    refine ⟨x, ?_, ?_⟩
    · show 0 ≤ tot R.injection R.cells j + outs R.injection R.cells j
      grind
    · show tot R.injection R.cells j + outs R.injection R.cells j ≤ 300 * ((j + 1 : Nat) : Rat)
      rw [hc]
      grind
theorem injS_is : ∀ j : Nat, injS R j = R.injectedSum + (j : Rat) * R.injection
  | 0 => by
    show R.injectedSum = R.injectedSum + (0 : Nat) * R.injection
    have : ((0 : Nat) : Rat) = 0 := rfl
    rw [this]
    grind
  | j + 1 => by
    show injS R j + R.injection = _
    have hc : ((j + 1 : Nat) : Rat) = (j : Rat) + 1 := by push_cast; rfl
    rw [injS_is j, hc]
    grind
theorem small_den {q : Rat} (hd : q.den ≤ 10 ^ 40) : q.den < 2 ^ 4000 := Nat.lt_of_le_of_lt (Nat.le_trans hd (by decide : 10 ^ 40 ≤ 2 ^ 133)) (Nat.pow_lt_pow_right (by decide) (by decide))
theorem fit_den {q : Rat} (hd : q.den ≤ 10 ^ 40) (l : -(4294967296 : Rat) ≤ q) (u : q ≤ 4294967296) : Fit 4400 q :=
  fit_small (dv_self q) (Nat.pos_of_ne_zero q.den_nz) (small_den hd) l u
theorem run_fit (h : GoodR m R) {n : Nat} (hn : n ≤ 20) : RunFit R.injection R.cells n where
  ne := fun j _ => adv_ne h j
  len := fun j _ => by
    rw [len_adv]
    have := h.l.l8
    omega
  fit := fun j hj c hc => cell_fit (adv_good h j c hc) (adv_dv h j c hc) (BP_pos _ _) (h.l.BP_lt (by omega))
  ij := by
    obtain ⟨k, hk, e⟩ := h.inj
    have i0 := h.i0
    have i1 := h.i1
    refine fit_small (B := 1) ?_ (by decide) (Nat.one_lt_two_pow (by decide)) (by grind) (by grind)
    rw [e]
    exact Dv.nat _ _
  out := fun j hj => by
    obtain ⟨d, e, f⟩ := outs_dv h j
    exact fit_small d (BP_pos _ _) (lt4000 (h.l.BP_lt (by omega))) (by grind) (by grind)
theorem many_fit (h : GoodR m R) (hm : m ≤ 1000) {n : Nat} (hn : n ≤ 20) : ManyFit R n where
  run := run_fit h hn
  inj := fun j hj => by
    have e := injS_is (R := R) j
    have i0 := h.i0
    have i1 := h.i1
    have s0 := h.s0
    have s1 := h.s1
    have hj' : (j : Rat) ≤ 20 := nat_rat (by omega : j ≤ 20)
    have hm' : (m : Rat) ≤ 1000 := nat_rat hm
    have j0 : (0 : Rat) ≤ (j : Rat) := Rat.natCast_nonneg
    have a : (0 : Rat) ≤ (j : Rat) * R.injection := Rat.mul_nonneg j0 i0
    have b : (j : Rat) * R.injection ≤ (j : Rat) * 300 := Rat.mul_le_mul_of_nonneg_left i1 j0
    rw [e]
    obtain ⟨k, hk, ek⟩ := h.inj
    refine fit_small (B := R.injectedSum.den) ?_ (Nat.pos_of_ne_zero R.injectedSum.den_nz) (small_den h.sd) (by grind) (by grind)
    rw [ek]
    exact (dv_self _).add ((Dv.nat _ k).nmul j)
  tot := fun j hj => by
    obtain ⟨d, e, f⟩ := tot_dv h j
    have hj' : (j : Rat) ≤ 20 := nat_rat (by omega : j ≤ 20)
    exact fit_small d (BP_pos _ _) (lt4000 (h.l.BP_lt (by omega))) (by grind) (by grind)
  sum := by
    have p0 := h.p0
    have p1 := h.p1
    have hm' : (m : Rat) ≤ 1000 := nat_rat hm
    exact fit_den h.pd (by grind) (by grind)
theorem cells_fit {cells : List Cell} (h : GoodL cells) : CellsFit cells := fun c hc => by
  have b := h.BP_lt (n := 0) (by decide)
  rw [Nat.pow_zero, Nat.mul_one] at b
  exact cell_fit (h.g c hc) (dv_start cells c hc) (B0_pos _) b
theorem sumR_bound {B : Nat} {M : Rat} (hM : 0 ≤ M) : ∀ l : List Rat, (∀ x ∈ l, Dv B x ∧ 0 ≤ x ∧ x ≤ M) → Dv B (sumR l) ∧ 0 ≤ sumR l ∧ sumR l ≤ M * (l.length : Rat)
  | [], _ => ⟨Dv.nat _ 0, Rat.le_refl, by
    show (0 : Rat) ≤ M * ((0 : Nat) : Rat)
    have : ((0 : Nat) : Rat) = 0 := rfl
    rw [this]
    grind⟩
  | x :: l, h => by
    obtain ⟨a, b, c⟩ := sumR_bound hM l fun y hy => h y (by simp [hy])
    obtain ⟨d, e, f⟩ := h x (by simp)
    have hc : (((x :: l).length : Nat) : Rat) = (l.length : Rat) + 1 := by rw [List.length_cons]; push_cast; rfl
    rw [sumR_cons]
    refine ⟨d.add a, by grind, ?_⟩
    rw [hc]
    grind
theorem heat_fit {cells : List Cell} (h : GoodL cells) : HeatFit cells := by
  have hb := h.BP_lt (n := 0) (by decide)
  rw [Nat.pow_zero, Nat.mul_one] at hb
  have hw : ∀ i, Dv (B0 cells) (sumR ((cells.take i).map Cell.water)) ∧ 0 ≤ sumR ((cells.take i).map Cell.water) ∧ sumR ((cells.take i).map Cell.water) ≤ 2400 := by
    intro i
    obtain ⟨a, b, c⟩ := sumR_bound (B := B0 cells) (M := 300) (by decide) ((cells.take i).map Cell.water) fun x hx => by
      obtain ⟨d, hd, rfl⟩ := List.mem_map.mp hx
      have hd' := List.mem_of_mem_take hd
      exact ⟨(dv_start cells d hd').2, (h.g d hd').w0, (h.g d hd').w1⟩
    have hl : (((cells.take i).map Cell.water).length : Rat) ≤ 8 := nat_rat (b := 8) (by
      have := h.l8
      rw [List.length_map, List.length_take]
      omega)
    exact ⟨a, b, by grind⟩
  have hr : ∀ i, Dv (B0 cells) (sumR ((cells.take i).map crT)) ∧ 0 ≤ sumR ((cells.take i).map crT) ∧ sumR ((cells.take i).map crT) ≤ 48000 := by
    intro i
    obtain ⟨a, b, c⟩ := sumR_bound (B := B0 cells) (M := 6000) (by decide) ((cells.take i).map crT) fun x hx => by
      obtain ⟨d, hd, rfl⟩ := List.mem_map.mp hx
      have hd' := List.mem_of_mem_take hd
      have g := h.g d hd'
      have k0 : (0 : Rat) ≤ (d.rockCapacity : Rat) := Rat.natCast_nonneg
      have k1 : (d.rockCapacity : Rat) ≤ 20 := nat_rat g.c2
      have r0 := g.r0
      have r1 := g.r1
      have m1 : (d.rockCapacity : Rat) * d.rock ≤ 20 * d.rock := Rat.mul_le_mul_of_nonneg_right k1 r0
      refine ⟨(dv_start cells d hd').1.nmul _, Rat.mul_nonneg k0 r0, ?_⟩
      unfold crT
      grind
    have hl : (((cells.take i).map crT).length : Rat) ≤ 8 := nat_rat (b := 8) (by
      have := h.l8
      rw [List.length_map, List.length_take]
      omega)
    exact ⟨a, b, by grind⟩
  refine ⟨fun i => ?_, fun i => ?_⟩
  · obtain ⟨a, b, c⟩ := hw i
    exact fit_small a (B0_pos _) (lt4000 hb) (by grind) (by grind)
  · obtain ⟨a, b, c⟩ := hw cells.length
    rw [List.take_length] at a b c
    obtain ⟨d, e, f⟩ := hr i
    exact fit_small (a.add d) (B0_pos _) (lt4000 hb) (by grind) (by grind)
end
end CF
namespace CF
open Kqk1
theorem small_is (q : Rat) : decide (q.den ≤ maxDenominator) = small q := rfl
theorem flat_all (f : Rat → Bool) : ∀ cells : List Cell, (temperatures cells).all f = (temps cells).all f
  | [] => rfl
  | c :: r => by
    have ih := flat_all f r
    have e1 : temperatures (c :: r) = c.rock :: c.water :: temperatures r := rfl
    have e2 : (temps (c :: r)).all f = (f c.rock && ((r.map Cell.rock).all f && (f c.water && (r.map Cell.water).all f))) := by
      unfold temps
      rw [List.all_append, List.map_cons, List.map_cons, List.all_cons, List.all_cons, Bool.and_assoc]
    have e3 : (temps r).all f = ((r.map Cell.rock).all f && (r.map Cell.water).all f) := by
      unfold temps
      rw [List.all_append]
    rw [e1, e2, List.all_cons, List.all_cons, ih, e3]
    cases f c.rock <;> cases f c.water <;> cases (r.map Cell.rock).all f <;> rfl
theorem dens_is (R : Reservoir) : denominatorsAreSmall R = smallR R := by
  unfold denominatorsAreSmall smallR
  rw [List.all_append, List.all_append]
  show ((temperatures R.cells).all small && _) = _
  rw [flat_all]
  rfl
theorem after_step (R : Reservoir) : ∀ n, afterN (advance R) n = afterN R (n + 1) := by
  intro n
  have a1 : ∀ n, adv R.injection n (advanced R.injection R.cells) = adv R.injection (n + 1) R.cells := by
    intro n
    induction n with
    | zero => rfl
    | succ n ih =>
      show advanced R.injection (adv R.injection n (advanced R.injection R.cells)) = advanced R.injection (adv R.injection (n + 1) R.cells)
      rw [ih]
  have a2 : ∀ n, injS (advance R) n = injS R (n + 1) := by
    intro n
    induction n with
    | zero => rfl
    | succ n ih =>
      show injS (advance R) n + R.injection = injS R (n + 1) + R.injection
      rw [ih]
  have a3 : ∀ n, R.producedSum + outlet R.cells + tot R.injection (advanced R.injection R.cells) n = R.producedSum + tot R.injection R.cells (n + 1) := by
    intro n
    induction n with
    | zero =>
      show R.producedSum + outlet R.cells + 0 = R.producedSum + (0 + outlet R.cells)
      grind
    | succ n ih =>
      show R.producedSum + outlet R.cells + (tot R.injection (advanced R.injection R.cells) n + outlet (adv R.injection n (advanced R.injection R.cells))) = R.producedSum + (tot R.injection R.cells (n + 1) + outlet (adv R.injection (n + 1) R.cells))
      rw [a1]
      grind
  show (⟨adv R.injection n (advanced R.injection R.cells), R.injection, injS (advance R) n, R.producedSum + outlet R.cells + tot R.injection (advanced R.injection R.cells) n, R.producedCount + 1 + n, R.saved⟩ : Reservoir) = ⟨adv R.injection (n + 1) R.cells, R.injection, injS R (n + 1), R.producedSum + tot R.injection R.cells (n + 1), R.producedCount + (n + 1), R.saved⟩
  rw [a1, a2, a3, Nat.add_assoc, Nat.add_comm 1 n]
theorem after_zero (R : Reservoir) : afterN R 0 = R := by
  show (⟨R.cells, R.injection, R.injectedSum, R.producedSum + 0, R.producedCount + 0, R.saved⟩ : Reservoir) = R
  have e : R.producedSum + 0 = R.producedSum := by grind
  rw [e]
  rfl
theorem many_is : ∀ (n : Nat) (R : Reservoir), advanceMany n R = afterN R n
  | 0, R => (after_zero R).symm
  | n + 1, R => by
    show advanceMany n (advance R) = _
    rw [many_is n, after_step]
theorem one_is (R : Reservoir) : Kqk1.advance R = afterN R 1 := many_is 1 R
theorem fore_is : ∀ (n : Nat) (R : Reservoir), forecast n R = outL R.injection R.cells n
  | 0, R => rfl
  | n + 1, R => by
    have ih := fore_is n (advance R)
    show outlet R.cells :: forecast n (advance R) = _
    rw [ih]
    have a1 : ∀ n, adv R.injection n (advanced R.injection R.cells) = adv R.injection (n + 1) R.cells := by
      intro n
      induction n with
      | zero => rfl
      | succ n ih =>
        show advanced R.injection (adv R.injection n (advanced R.injection R.cells)) = advanced R.injection (adv R.injection (n + 1) R.cells)
        rw [ih]
    unfold outL
    rw [List.range_succ_eq_map, List.map_cons, List.map_map]
    congr 1
    refine List.map_congr_left fun j _ => ?_
    show outlet (adv R.injection j (advanced R.injection R.cells)) = outlet (adv R.injection (j + 1) R.cells)
    rw [a1]
/-! what each call keeps -/
theorem GoodR.mono {m k : Nat} {R : Reservoir} (h : GoodR m R) (hk : m ≤ k) : GoodR k R := by
  have e : (m : Rat) ≤ (k : Rat) := nat_rat hk
  have s1 := h.s1
  have p1 := h.p1
  exact ⟨h.l, h.inj, h.sd, h.s0, by grind, h.pd, h.p0, by grind, h.sv⟩
theorem GoodL.map {cells : List Cell} (h : GoodL cells) {f : Cell → Cell} (hf : ∀ c ∈ cells, GoodC (f c)) (hd : ∀ c ∈ cells, (f c).rock.den ≤ 10 ^ 40 ∧ (f c).water.den ≤ 10 ^ 40) : GoodL (cells.map f) where
  l1 := by rw [List.length_map]; exact h.l1
  l8 := by rw [List.length_map]; exact h.l8
  g := fun c hc => by
    obtain ⟨d, hd', rfl⟩ := List.mem_map.mp hc
    exact hf d hd'
  d := fun c hc => by
    obtain ⟨d, hd', rfl⟩ := List.mem_map.mp hc
    exact hd d hd'
theorem GoodL.set {cells : List Cell} (h : GoodL cells) {i : Nat} {c : Cell} (hf : GoodC c) (hd : c.rock.den ≤ 10 ^ 40 ∧ c.water.den ≤ 10 ^ 40) : GoodL (cells.set i c) where
  l1 := by rw [List.length_set]; exact h.l1
  l8 := by rw [List.length_set]; exact h.l8
  g := fun e he => by
    rcases List.mem_or_eq_of_mem_set he with h' | rfl
    · exact h.g e h'
    · exact hf
  d := fun e he => by
    rcases List.mem_or_eq_of_mem_set he with h' | rfl
    · exact h.d e h'
    · exact hd
theorem small_mem {cells : List Cell} (h : (temps cells).all small = true) : ∀ c ∈ cells, c.rock.den ≤ 10 ^ 40 ∧ c.water.den ≤ 10 ^ 40 := by
  intro c hc
  unfold temps at h
  rw [List.all_append, Bool.and_eq_true, List.all_eq_true, List.all_eq_true] at h
  exact ⟨of_decide_eq_true (h.1 c.rock (List.mem_map.mpr ⟨c, hc, rfl⟩)), of_decide_eq_true (h.2 c.water (List.mem_map.mpr ⟨c, hc, rfl⟩))⟩
theorem smallR_split {R : Reservoir} : smallR R = ((temps R.cells).all small && (small R.injectedSum && small R.producedSum)) := by
  unfold smallR
  rw [List.all_append]
  show (_ && (small R.injectedSum && (small R.producedSum && true))) = _
  rw [Bool.and_true]
theorem den_nat (n : Nat) : ((n : Rat)).den ≤ 10 ^ 40 := by
  have e : ((n : Rat)).den = 1 := rfl
  rw [e]
  decide
theorem good_heated {n : Nat} (hn : n ≤ 300) {c : Cell} (h1 : 1 ≤ c.rockCapacity) (h2 : c.rockCapacity ≤ 20) : GoodC { c with rock := (n : Rat), water := (n : Rat) } :=
  ⟨h1, h2, Rat.natCast_nonneg, nat_rat hn, Rat.natCast_nonneg, nat_rat hn⟩
theorem cell_mem {R : Reservoir} {i : Nat} (h : i < R.cells.length) : cell R i ∈ R.cells := by
  have e := cell_at h
  exact List.mem_of_getElem? e
theorem mean_two {a b : Rat} (a0 : 0 ≤ a) (a1 : a ≤ 300) (b0 : 0 ≤ b) (b1 : b ≤ 300) : 0 ≤ (a + b) / 2 ∧ (a + b) / 2 ≤ 300 := by
  constructor
  · refine Rat.not_lt.mp fun z => ?_
    rw [Rat.div_lt_iff (by decide)] at z
    grind
  · refine Rat.not_lt.mp fun z => ?_
    rw [Rat.lt_div_iff (by decide)] at z
    grind
theorem mean_len {l k : List Cell} (h : haveEqualCapacities l k = true) : l.length = k.length := by
  unfold haveEqualCapacities at h
  rw [Bool.and_eq_true] at h
  exact eq_of_beq h.1
theorem mem_mean {l k : List Cell} {c : Cell} (h : c ∈ mean l k) : ∃ a ∈ l, ∃ b ∈ k, c = { a with rock := (a.rock + b.rock) / 2, water := (a.water + b.water) / 2 } := by
  unfold mean at h
  obtain ⟨⟨a, b⟩, hd, rfl⟩ := List.mem_map.mp h
  exact ⟨a, (List.of_mem_zip hd).1, b, (List.of_mem_zip hd).2, rfl⟩
theorem good_commit {m : Nat} {R R' : Reservoir} {res : Result} (h : GoodR m R) (h' : smallR R' = true → GoodR m R') : ∀ S, (commit R R' res).1 = some S → GoodR m S := by
  intro S e
  unfold commit at e
  rw [dens_is] at e
  cases c : smallR R' with
  | true =>
    rw [c, if_pos rfl] at e
    cases e
    exact h' c
  | false =>
    rw [c, if_neg Bool.false_ne_true] at e
    cases e
    exact h
theorem good_cells {m : Nat} {R : Reservoir} (h : GoodR m R) {cells : List Cell} (hl : GoodL cells) : GoodR m { R with cells := cells } := ⟨hl, h.inj, h.sd, h.s0, h.s1, h.pd, h.p0, h.p1, h.sv⟩
theorem good_after {m : Nat} {R : Reservoir} (h : GoodR m R) {n : Nat} (hn : n ≤ 20) (hs : smallR (afterN R n) = true) : GoodR (m + 1) (afterN R n) := by
  rw [smallR_split, Bool.and_eq_true, Bool.and_eq_true] at hs
  obtain ⟨h1, h2, h3⟩ := hs
  have t := tot_dv h n
  have e := injS_is (R := R) n
  have i0 := h.i0
  have i1 := h.i1
  have s0 := h.s0
  have s1 := h.s1
  have p0 := h.p0
  have p1 := h.p1
  have hn' : (n : Rat) ≤ 20 := nat_rat hn
  have j0 : (0 : Rat) ≤ (n : Rat) := Rat.natCast_nonneg
  have a : (0 : Rat) ≤ (n : Rat) * R.injection := Rat.mul_nonneg j0 i0
  have b : (n : Rat) * R.injection ≤ (n : Rat) * 300 := Rat.mul_le_mul_of_nonneg_left i1 j0
  have hc : ((m + 1 : Nat) : Rat) = (m : Rat) + 1 := by push_cast; rfl
  refine ⟨⟨?_, ?_, adv_good h n, small_mem h1⟩, h.inj, of_decide_eq_true h2, ?_, ?_, of_decide_eq_true h3, ?_, ?_, h.sv⟩
  · show 1 ≤ (adv R.injection n R.cells).length
    rw [len_adv]
    exact h.l.l1
  · show (adv R.injection n R.cells).length ≤ 8
    rw [len_adv]
    exact h.l.l8
  · show 0 ≤ injS R n
    rw [e]
    grind
  · show injS R n ≤ 6000 * ((m + 1 : Nat) : Rat)
    rw [e, hc]
    grind
  · show 0 ≤ R.producedSum + tot R.injection R.cells n
    grind
  · show R.producedSum + tot R.injection R.cells n ≤ 6000 * ((m + 1 : Nat) : Rat)
    rw [hc]
    grind
theorem z0 : (0 : Rat) ≤ 6000 * ((0 : Nat) : Rat) := by
  have : ((0 : Nat) : Rat) = 0 := rfl
  rw [this]
  grind
theorem good_fresh {n : Nat} (h1 : 1 ≤ n) (h8 : n ≤ 8) : GoodR 0 (⟨List.replicate n ⟨1, 100, 100⟩, 20, 0, 0, 0, none⟩ : Reservoir) := by
  have e : ∀ c ∈ List.replicate n (⟨1, 100, 100⟩ : Cell), c = ⟨1, 100, 100⟩ := fun c hc => List.eq_of_mem_replicate hc
  refine ⟨⟨?_, ?_, ?_, ?_⟩, ⟨20, by decide, rfl⟩, (by decide : (0 : Rat).den ≤ 10 ^ 40), (Rat.le_refl : (0 : Rat) ≤ 0), z0, (by decide : (0 : Rat).den ≤ 10 ^ 40), (Rat.le_refl : (0 : Rat) ≤ 0), z0, fun l z => by cases z⟩
  · show 1 ≤ (List.replicate n _).length
    rw [List.length_replicate]
    exact h1
  · show (List.replicate n _).length ≤ 8
    rw [List.length_replicate]
    exact h8
  · intro c hc
    rw [e c hc]
    exact ⟨by decide, by decide, by decide, by decide, by decide, by decide⟩
  · intro c hc
    rw [e c hc]
    exact ⟨by decide, by decide⟩
/-- of a state: nothing, or a good reservoir -/
def GoodS (m : Nat) (s : Option Reservoir) : Prop := ∀ R, s = some R → GoodR m R
theorem good_create {m n : Nat} {s : Option Reservoir} (h1 : ∀ R, s = some R → GoodR (m + 1) R) : GoodS (m + 1) (step s (.create n)).1 := by
  have e : step s (.create n) = if n < 1 ∨ maxCells < n then (s, .value (-22)) else (some ⟨List.replicate n ⟨1, 100, 100⟩, 20, 0, 0, 0, none⟩, .value 0) := by
    cases s <;> rfl
  rw [e]
  by_cases c : n < 1 ∨ maxCells < n
  · rw [if_pos c]
    exact h1
  · rw [if_neg c]
    intro S z
    cases z
    have c2 : ¬ (n < 1 ∨ 8 < n) := c
    exact (good_fresh (by omega) (by omega)).mono (by omega)
theorem good_step {m : Nat} {s : Option Reservoir} (h : GoodS m s) (q : Request) : GoodS (m + 1) (step s q).1 := by
  have h1 : ∀ R, s = some R → GoodR (m + 1) R := fun R e => (h R e).mono (by omega)
  cases s with
  | none =>
    cases q <;> first
      | exact good_create h1
      | (intro R e; cases e)
  | some R =>
    have g := h R rfl
    have g1 := h1 R rfl
    have same : GoodS (m + 1) (some R) := h1
    cases q with
    | create n => exact good_create h1
    | setRockCapacity i c =>
      show GoodS (m + 1) (if R.cells.length ≤ i then (some R, Result.value (-2)) else if c < 1 ∨ 20 < c then (some R, .value (-22)) else (some { R with cells := R.cells.set i { cell R i with rockCapacity := c } }, .value (cell R i).rockCapacity)).1
      by_cases a : R.cells.length ≤ i
      · rw [if_pos a]; exact same
      · rw [if_neg a]
        by_cases b : c < 1 ∨ 20 < c
        · rw [if_pos b]; exact same
        · rw [if_neg b]
          intro S z
          cases z
          have hm := cell_mem (R := R) (i := i) (by omega)
          have gc := g.l.g _ hm
          exact good_cells g1 (g.l.set ⟨by show 1 ≤ c; omega, by show c ≤ 20; omega, gc.r0, gc.r1, gc.w0, gc.w1⟩ (show (cell R i).rock.den ≤ 10 ^ 40 ∧ (cell R i).water.den ≤ 10 ^ 40 from g.l.d _ hm))
    | setTemperature i t =>
      show GoodS (m + 1) (if R.cells.length ≤ i then (some R, Result.value (-2)) else if 300 < t then (some R, .value (-22)) else (some { R with cells := R.cells.set i { cell R i with rock := (t : Rat), water := (t : Rat) } }, .value 0)).1
      by_cases a : R.cells.length ≤ i
      · rw [if_pos a]; exact same
      · rw [if_neg a]
        by_cases b : 300 < t
        · rw [if_pos b]; exact same
        · rw [if_neg b]
          intro S z
          cases z
          have hm := cell_mem (R := R) (i := i) (by omega)
          have gc := g.l.g _ hm
          exact good_cells g1 (g.l.set (good_heated (by omega) gc.c1 gc.c2) ⟨den_nat t, den_nat t⟩)
    | setAllTemperatures t =>
      show GoodS (m + 1) (if 300 < t then (some R, Result.value (-22)) else (some { R with cells := R.cells.map fun c => { c with rock := (t : Rat), water := (t : Rat) } }, .value R.cells.length)).1
      by_cases b : 300 < t
      · rw [if_pos b]; exact same
      · rw [if_neg b]
        intro S z
        cases z
        exact good_cells g1 (g.l.map (fun c hc => good_heated (by omega) (g.l.g c hc).c1 (g.l.g c hc).c2) fun c hc => ⟨den_nat t, den_nat t⟩)
    | setInjectionTemperature t =>
      show GoodS (m + 1) (if 300 < t then (some R, Result.value (-22)) else (some { R with injection := (t : Rat) }, .values 0 (fraction R.injection))).1
      by_cases b : 300 < t
      · rw [if_pos b]; exact same
      · rw [if_neg b]
        intro S z
        cases z
        exact ⟨g1.l, ⟨t, by omega, rfl⟩, g1.sd, g1.s0, g1.s1, g1.pd, g1.p0, g1.p1, g1.sv⟩
    | advance =>
      refine good_commit g1 fun hs => ?_
      rw [one_is] at hs ⊢
      exact good_after g (by decide) hs
    | advanceMany k =>
      show GoodS (m + 1) (if k < 1 ∨ horizon < k then (some R, Result.value (-22)) else commit R (advanceMany k R) (fractions [(advanceMany k R).producedSum - R.producedSum])).1
      by_cases b : k < 1 ∨ horizon < k
      · rw [if_pos b]; exact same
      · rw [if_neg b]
        have b2 : ¬ (k < 1 ∨ 20 < k) := b
        refine good_commit g1 fun hs => ?_
        rw [many_is] at hs ⊢
        exact good_after g (by omega) hs
    | equilibrate =>
      refine good_commit g1 fun hs => ?_
      rw [smallR_split, Bool.and_eq_true] at hs
      have sm := small_mem hs.1
      exact good_cells g1 (g.l.map (fun c hc => (g.l.g c hc).eq) fun c hc => sm _ (List.mem_map.mpr ⟨c, hc, rfl⟩))
    | forecast k => exact same
    | getCell i => exact same
    | totalHeat => exact same
    | balance => exact same
    | hottest => exact same
    | coldest => exact same
    | breakthrough t => exact same
    | saveProfile =>
      intro S z
      cases z
      exact ⟨g1.l, g1.inj, g1.sd, g1.s0, g1.s1, g1.pd, g1.p0, g1.p1, fun l e => by cases e; exact g1.l⟩
    | compareWithSaved => exact same
    | averageWithSaved =>
      show GoodS (m + 1) (match R.saved with
        | none => (some R, Result.value (-6))
        | some l => if haveEqualCapacities l R.cells = false then (some R, .value (-34)) else commit R { R with cells := mean R.cells l } (.value R.cells.length)).1
      cases es : R.saved with
      | none => exact same
      | some l =>
        show GoodS (m + 1) (if haveEqualCapacities l R.cells = false then (some R, Result.value (-34)) else commit R { R with cells := mean R.cells l, saved := some l } (.value R.cells.length)).1
        have eR : ({ R with cells := mean R.cells l, saved := some l } : Reservoir) = { R with cells := mean R.cells l } := by rw [← es]
        rw [eR]
        by_cases b : haveEqualCapacities l R.cells = false
        · rw [if_pos b]; exact same
        · rw [if_neg b]
          have b2 : haveEqualCapacities l R.cells = true := by simpa using b
          have hl := mean_len b2
          refine good_commit g1 fun hs => ?_
          rw [smallR_split, Bool.and_eq_true] at hs
          have gl := g.sv l es
          have lz : (mean R.cells l).length = R.cells.length := by
            unfold mean
            rw [List.length_map, List.length_zip]
            omega
          refine good_cells g1 ⟨by rw [lz]; exact g.l.l1, by rw [lz]; exact g.l.l8, fun c hc => ?_, small_mem hs.1⟩
          obtain ⟨a, ha, b, hb, rfl⟩ := mem_mean hc
          have ga := g.l.g a ha
          have gb := gl.g b hb
          have r := mean_two ga.r0 ga.r1 gb.r0 gb.r1
          have w := mean_two ga.w0 ga.w1 gb.w0 gb.w1
          exact ⟨ga.c1, ga.c2, r.1, r.2, w.1, w.2⟩
    | reverse =>
      intro S z
      cases z
      exact good_cells g1 ⟨by rw [List.length_reverse]; exact g1.l.l1, by rw [List.length_reverse]; exact g1.l.l8, fun c hc => g1.l.g c (List.mem_reverse.mp hc), fun c hc => g1.l.d c (List.mem_reverse.mp hc)⟩
    | excessHeat t => exact same
    | summary => exact same
end CF
namespace CF
open PySem PySem.Spec PyProof.Rows L2
open PySem.W (Codec)
abbrev sMean : Stmt := top 15
abbrev sLess : Stmt := top 16
abbrev sGreat : Stmt := top 17
abbrev sSmall : Stmt := top 18
def spMean : Sp := fun vs H Q _ => ∃ (a b : Addr) (p q : Rat), vs = [.ref a, .ref b] ∧ FrA H a p ∧ FrA H b q ∧ Fit 4400 p ∧ Fit 4400 q ∧ ∀ H' r, Same H H' → FrA H' r ((p + q) / 2) → Q (.ref r) H'
def spLess : Sp := fun vs H Q _ => ∃ (a b : Addr) (p q : Rat), vs = [.ref a, .ref b] ∧ FrA H a p ∧ FrA H b q ∧ Fit 4400 p ∧ Fit 4400 q ∧ Q (.bl (decide (p < q))) H
def spGreat : Sp := fun vs H Q _ => ∃ (l : Addr) (ws : List V) (qs : List Rat), vs = [.ref l] ∧ H l = some (.lst ws) ∧ Frs H ws qs ∧ qs ≠ [] ∧ (∀ q ∈ qs, Fit 4400 q) ∧ ∀ r m, FrA H r m → m ∈ qs → (∀ q ∈ qs, q ≤ m) → Q (.ref r) H
def spSmall : Sp := fun vs H Q _ => ∃ (l : Addr) (ws : List V) (qs : List Rat), vs = [.ref l] ∧ H l = some (.lst ws) ∧ Frs H ws qs ∧ qs ≠ [] ∧ (∀ q ∈ qs, Fit 4400 q) ∧ ∀ r m, FrA H r m → m ∈ qs → (∀ q ∈ qs, m ≤ q) → Q (.ref r) H
theorem take_all_more {α : Type} {p : α → Prop} {l : List α} {i : Nat} {x : α} (h : l[i]? = some x) (a : ∀ y ∈ l.take i, p y) (b : p x) : ∀ y ∈ l.take (i + 1), p y := by
  intro y hy
  rw [take_more h] at hy
  rcases List.mem_append.mp hy with z | z
  · exact a y z
  · have e : y = x := by simpa using z
    rw [e]
    exact b
section
variable {P : Program} {w : World} {K : PySem.W.Frag} {mg : Str → Option Value} {base : Heap}
theorem scMn : FnScope ["first", "second"] ["first", "second"] (defScope sMean) := ⟨rfl, rfl, rfl, by decide +kernel, rfl, by decide +kernel, by decide +kernel⟩
theorem ok_mean {f : Addr} {fd : FuncData} (F : Fun K "mean" "mean" sMean f fd) (G : DefOk CX0 P w K mg base 3 "weighted_mean" ["weight", "first", "second"] spWm) : FnOk P w K mg base CX0 4 f fd ["first", "second"] spMean := by
  refine F.ok scMn (fun vs H Q E h => ?_) (fun cdv A outer s H vs Q E hr h => ⟨_, pss_one (ps_ret (pe_d G hr (by decide) rfl pass0 (pa_cons pe_int (pa_cons (pv 0) (pa_cons (pv 1) pa_nil))))), ?_⟩)
  · obtain ⟨a, b, p, q, rfl, _⟩ := h
    rfl
  · obtain ⟨a, b, p, q, rfl, ha, hb, hp, hq, k⟩ := h
    refine ⟨_, rfl, _, rfl, a, b, p, q, 1, rfl, ha, hb, hp, hq, by decide, fun H' r s h => k H' r s ?_⟩
    have e : (((1 : Nat) : Rat) * p + q) / (((1 + 1 : Nat)) : Rat) = (p + q) / 2 := by
      have e1 : ((1 : Nat) : Rat) = 1 := rfl
      have e2 : (((1 + 1 : Nat)) : Rat) = 2 := rfl
      rw [e1, e2, Rat.one_mul]
    rw [← e]
    exact h
theorem scLs : FnScope ["first", "second"] ["first", "second"] (defScope sLess) := ⟨rfl, rfl, rfl, by decide +kernel, rfl, by decide +kernel, by decide +kernel⟩
theorem ok_less {f : Addr} {fd : FuncData} (F : Fun K "is_less" "is_less" sLess f fd) : FnOk P w K mg base CX0 1 f fd ["first", "second"] spLess := by
  refine F.ok scLs (fun vs H Q E h => ?_) (fun cdv A outer s H vs Q E hr h => ⟨_, pss_one (ps_ret (pe_cmpR op_lt (pe_op op_mulW (pe_ix ix_tup (pv 0) pe_int (fun _ _ => rfl)) (pe_ix ix_tup (pv 1) pe_int (fun _ _ => rfl)))
      (pe_op op_mulW (pe_ix ix_tup (pv 1) pe_int (fun _ _ => rfl)) (pe_ix ix_tup (pv 0) pe_int (fun _ _ => rfl))) (nomark _))), ?_⟩)
  · obtain ⟨a, b, p, q, rfl, _⟩ := h
    rfl
  · obtain ⟨a, b, p, q, rfl, ha, hb, hp, hq, k⟩ := h
    refine ⟨_, rfl, _, _, _, _, rfl, rfl, fr_seq ha, at0, _, rfl, _, _, _, _, rfl, rfl, fr_seq hb, at1, _, _, rfl, rfl, wide_mul hp.num hq.den (by decide) (by decide) (by decide),
      _, rfl, _, _, _, _, rfl, rfl, fr_seq hb, at0, _, rfl, _, _, _, _, rfl, rfl, fr_seq ha, at1, _, _, rfl, rfl, wide_mul hq.num hp.den (by decide) (by decide) (by decide), _, _, rfl, rfl, ?_⟩
    have e : decide (p < q) = decide (p.num * (q.den : Int) < q.num * (p.den : Int)) := decide_eq_decide.mpr (Rat.lt_iff p q)
    rw [e] at k
    exact k
theorem scGt : FnScope ["fractions", "found", "fraction"] ["fractions"] (defScope sGreat) := ⟨rfl, rfl, rfl, by decide +kernel, rfl, by decide +kernel, by decide +kernel⟩
theorem ok_great {f : Addr} {fd : FuncData} (F : Fun K "greatest" "greatest" sGreat f fd) (G : DefOk CX0 P w K mg base 1 "is_less" ["first", "second"] spLess) : FnOk P w K mg base CX0 2 f fd ["fractions"] spGreat := by
  refine F.ok scGt (fun vs H Q E h => ?_) (fun cdv A outer s H vs Q E hr h => ⟨_, pss_cons (ps_set (i := 1) scGt.nd rfl (Or.inl rfl) (pe_ix ix_list (pv 0) pe_int (fun _ _ => rfl)))
    (pss_cons (ps_for PassesOwn.never rfl (pi_list (pv 0)) (pg_name (i := 2) scGt.nd rfl (Or.inl rfl))
      (pss_one (ps_if (pt_val (pe_d G hr (by decide) rfl pass0 (pa_cons (pv 1) (pa_cons (pv 2) pa_nil)))) (pss_one (ps_set (i := 1) scGt.nd rfl (Or.inl rfl) (pv 2))) pss_nil)))
    (pss_one (ps_ret (pv 1)))), ?_⟩)
  · obtain ⟨l, ws, qs, rfl, _⟩ := h
    rfl
  · obtain ⟨l, ws, qs, rfl, hl, hf, hne, fit, k⟩ := h
    obtain ⟨q0, qr, rfl⟩ := List.exists_cons_of_ne_nil hne
    have hw0 : 0 < ws.length := by
      rw [hf.length]
      exact Nat.succ_pos _
    have hx0 := List.getElem?_eq_getElem hw0
    obtain ⟨a0, e0, f0⟩ := hf.get hx0 (show (q0 :: qr)[0]? = some q0 from rfl)
    rw [e0] at hx0
    refine ⟨_, rfl, l, ws, _, _, rfl, rfl, SqL.of hl, atI_nat hx0, ?_⟩
    refine ⟨_, rfl, l, rfl, ⟨_, SqL.of hl⟩, for_list (K := K) (a := l) (xs := ws) (fun i σ H' => ∃ r m v, σ = [some (.ref l), some (.ref r), v] ∧ H' = H ∧ FrA H r m ∧ m ∈ (q0 :: qr) ∧ ∀ q ∈ (q0 :: qr).take i, q ≤ m)
      ⟨a0, q0, none, rfl, rfl, f0, by simp, by simp⟩ (fun i σ H' _ ⟨_, _, _, _, e, _⟩ => by rw [e]; exact SqL.of hl) ?_ ?_⟩
    · rintro i x σ H' hx ⟨r, m, v, rfl, rfl, fr, hm, hle⟩
      have hi : i < (q0 :: qr).length := by
        have h1 := (List.getElem?_eq_some_iff.mp hx).1
        have h2 := hf.length
        omega
      have hqi : (q0 :: qr)[i]? = some (q0 :: qr)[i] := List.getElem?_eq_getElem hi
      obtain ⟨a, rfl, fa⟩ := hf.get hx hqi
      have hmem := List.getElem_mem hi
      refine ⟨_, rfl, _, rfl, r, a, m, _, rfl, fr, fa, fit m hm, fit _ hmem, _, rfl, ifB (fun c => ?_) (fun c => ?_)⟩
      · have c1 := of_decide_eq_true c
        refine ⟨_, rfl, a, _, _, rfl, rfl, fa, hmem, take_all_more hqi (fun y hy => ?_) Rat.le_refl⟩
        exact Rat.le_trans (hle y hy) (Rat.le_of_lt c1)
      · have c1 := of_decide_eq_false c
        exact ⟨r, m, _, rfl, rfl, fr, hm, take_all_more hqi hle (Rat.not_lt.mp c1)⟩
    · rintro σ H' ⟨r, m, v, rfl, rfl, fr, hm, hle⟩
      rw [hf.length, List.take_length] at hle
      exact ⟨_, rfl, k r m fr hm hle⟩
theorem scSm : FnScope ["fractions", "found", "fraction"] ["fractions"] (defScope sSmall) := ⟨rfl, rfl, rfl, by decide +kernel, rfl, by decide +kernel, by decide +kernel⟩
theorem ok_small {f : Addr} {fd : FuncData} (F : Fun K "smallest" "smallest" sSmall f fd) (G : DefOk CX0 P w K mg base 1 "is_less" ["first", "second"] spLess) : FnOk P w K mg base CX0 2 f fd ["fractions"] spSmall := by
  refine F.ok scSm (fun vs H Q E h => ?_) (fun cdv A outer s H vs Q E hr h => ⟨_, pss_cons (ps_set (i := 1) scSm.nd rfl (Or.inl rfl) (pe_ix ix_list (pv 0) pe_int (fun _ _ => rfl)))
    (pss_cons (ps_for PassesOwn.never rfl (pi_list (pv 0)) (pg_name (i := 2) scSm.nd rfl (Or.inl rfl))
      (pss_one (ps_if (pt_val (pe_d G hr (by decide) rfl pass0 (pa_cons (pv 2) (pa_cons (pv 1) pa_nil)))) (pss_one (ps_set (i := 1) scSm.nd rfl (Or.inl rfl) (pv 2))) pss_nil)))
    (pss_one (ps_ret (pv 1)))), ?_⟩)
  · obtain ⟨l, ws, qs, rfl, _⟩ := h
    rfl
  · obtain ⟨l, ws, qs, rfl, hl, hf, hne, fit, k⟩ := h
    obtain ⟨q0, qr, rfl⟩ := List.exists_cons_of_ne_nil hne
    have hw0 : 0 < ws.length := by
      rw [hf.length]
      exact Nat.succ_pos _
    have hx0 := List.getElem?_eq_getElem hw0
    obtain ⟨a0, e0, f0⟩ := hf.get hx0 (show (q0 :: qr)[0]? = some q0 from rfl)
    rw [e0] at hx0
    refine ⟨_, rfl, l, ws, _, _, rfl, rfl, SqL.of hl, atI_nat hx0, ?_⟩
    refine ⟨_, rfl, l, rfl, ⟨_, SqL.of hl⟩, for_list (K := K) (a := l) (xs := ws) (fun i σ H' => ∃ r m v, σ = [some (.ref l), some (.ref r), v] ∧ H' = H ∧ FrA H r m ∧ m ∈ (q0 :: qr) ∧ ∀ q ∈ (q0 :: qr).take i, m ≤ q)
      ⟨a0, q0, none, rfl, rfl, f0, by simp, by simp⟩ (fun i σ H' _ ⟨_, _, _, _, e, _⟩ => by rw [e]; exact SqL.of hl) ?_ ?_⟩
    · rintro i x σ H' hx ⟨r, m, v, rfl, rfl, fr, hm, hle⟩
      have hi : i < (q0 :: qr).length := by
        have h1 := (List.getElem?_eq_some_iff.mp hx).1
        have h2 := hf.length
        omega
      have hqi : (q0 :: qr)[i]? = some (q0 :: qr)[i] := List.getElem?_eq_getElem hi
      obtain ⟨a, rfl, fa⟩ := hf.get hx hqi
      have hmem := List.getElem_mem hi
      refine ⟨_, rfl, _, rfl, a, r, _, m, rfl, fa, fr, fit _ hmem, fit m hm, _, rfl, ifB (fun c => ?_) (fun c => ?_)⟩
      · have c1 := of_decide_eq_true c
        refine ⟨_, rfl, a, _, _, rfl, rfl, fa, hmem, take_all_more hqi (fun y hy => ?_) Rat.le_refl⟩
        exact Rat.le_trans (Rat.le_of_lt c1) (hle y hy)
      · have c1 := of_decide_eq_false c
        exact ⟨r, m, _, rfl, rfl, fr, hm, take_all_more hqi hle (Rat.not_lt.mp c1)⟩
    · rintro σ H' ⟨r, m, v, rfl, rfl, fr, hm, hle⟩
      rw [hf.length, List.take_length] at hle
      exact ⟨_, rfl, k r m fr hm hle⟩
end
end CF
namespace CF
open PySem PySem.Spec PyProof.Rows L2 RT
section
variable {prog : Program} {w : World} {A : Around} {E : Value → Shared → Prop} {s : Shared}
/-- all but the objects at these two stands -/
def Stays (a b : Addr) (h h' : Heap) : Prop := ∀ q u, q ≠ a → q ≠ b → h.get? q = some u → h'.get? q = some u
/-- item by item from the end -/
def Backwards (ys : Array Value) (acc : Array Value) : Prop := ItemsOf (fun i v => ys[ys.size - 1 - i]? = some v) acc ys.size
/-- what a code ends with, in the words of one promise -/
abbrev endsWith (prog : Program) (w : World) (A : Around) (R : Result → Shared → Prop) : Fin → Shared → Prop := fun e z => match e with
  | .done f => R (.ok f) z
  | .again c => c.quiet = true ∧ codeAny (model prog w) A c R z
/-- a list that is empty yet, extended by a list's reverse iterator that stands at the end -/
theorem ext_rev {R : Result → Shared → Prop} {k l L : Addr} {ys : Array Value} {c : Nat} (calm : A.handled = none) (atK : s.heap.IsRevIter k l ((ys.size : Int) - 1)) (atl : s.heap.IsList l ys) (off : l ≠ k) (fits : ys.size ≤ sizeLine)
    (atL : s.heap.get? L = some { cls := .type "list", data := .seq #[] c }) (offK : L ≠ k) (offl : L ≠ l)
    (post : ∀ (h' : Heap) (tk : Nat) (acc : Array Value) (c' : Nat), Stays k L s.heap h' → h'.get? L = some { cls := .type "list", dict := none, data := .seq acc c', slots := #[] } → Backwards ys acc → R (.ok (.ret .none)) { s with heap := h', toks := tk }) :
    wpAny (model prog w) A.in1 (Builtin.List.listExtendWith (.ref L) (.ref k) .none) (endsWith prog w A R) (fun e z => R (.error e) z) s := by
  have apart : L ∉ [k, l] := fun z => by
    rcases List.mem_cons.mp z with z | z
    · exact offK z
    · exact offl (List.mem_singleton.mp z)
  have ty : s.TypeIs (.ref k) "list_reverseiterator" := atK.typeIs
  have ne : Builtin.List.listSameRef (.ref L) (.ref k) = false := by simp [Builtin.List.listSameRef, offK]
  have noL : (Value.type "list_reverseiterator" == Value.type "list") = false := by decide +kernel
  have noT : (Value.type "list_reverseiterator" == Value.type "tuple") = false := by decide +kernel
  have start : (ys.size : Int) - 1 - ((0 : Nat) : Int) = (ys.size : Int) - 1 := by omega
  have walk := (Walks.listRev (prog := prog) (w := w) (A := A.in1) calm k l off ys).toS
  simp only [Builtin.List.listExtendWith]
  refine wpAny_bind (wpAny_typeOf ty ?_)
  simp only [ne, noL, noT, Bool.or_false, Bool.false_eq_true, if_false]
  refine wpAny_bind (wpAny_pyIter_revIter atK (wpAny_bind (wpAny_holding ?_)))
  simp only [Builtin.List.listLengthHint]
  refine wpAny_bind (wpAny_specialOf ty nolen_lri ?_)
  try dsimp only
  refine wpAny_bind (wpAny_specialOf ty hint_lri ?_)
  generalize name : ("list_reverseiterator.__length_hint__" : String) = n0
  wp_delta
  have parts : splitId n0 = some ("list_reverseiterator", "__length_hint__") := by
    rw [← name]
    decide +kernel
  rw [parts]
  clear parts
  subst name
  refine wpAny_bind (wpAny_isInstance (b := true) ty (by rw [isSubtype_type]; kernel_rfl) (wpAny_pure ?_))
  rw [if_neg (by decide)]
  refine wpAny_pure ⟨plainId_quiet F.plain_extend_loop _, codeAny_extend_loopS walk fits _ apart _ ys.size 0 _ _ _ rfl (Nat.zero_le _) ⟨Nat.zero_le _, by rw [start]; exact atK, atl⟩ atL (ItemsOf.nil _) fun z acc c' moved new items => ?_⟩
  have kept : Stays k L s.heap z.heap := fun q u nk nL e => moved.heap q u (fun z => by
    rcases List.mem_cons.mp z with z | z
    · exact nL z
    · exact nk (List.mem_singleton.mp z)) e
  rw [moved.eq_with]
  exact post _ _ acc c' kept new items
/-- list(it), it a list's reverse iterator at its end -/
theorem call_list_rev {k l : Addr} {ys : Array Value} {Q : Value → Shared → Prop} (calm : A.handled = none) (atK : s.heap.IsRevIter k l ((ys.size : Int) - 1)) (atl : s.heap.IsList l ys) (off : l ≠ k) (fits : ys.size ≤ sizeLine)
    (post : ∀ (h' : Heap) (tk : Nat) (acc : Array Value) (c' : Nat), (∀ q u, q ≠ k → s.heap.get? q = some u → h'.get? q = some u) → h'.get? s.heap.objs.size = some { cls := .type "list", dict := none, data := .seq acc c', slots := #[] } → Backwards ys acc →
      Q (.ref s.heap.objs.size) { s with heap := h', toks := tk }) : wpAny (model prog w) A (call (.type "list") [.ref k]) Q E s := by
  have below : ∀ q u, s.heap.get? q = some u → s.heap.objs.size ≠ q := fun q u e => Nat.ne_of_gt (Heap.lt_size e)
  obtain ⟨uk, ek, _⟩ := id atK
  obtain ⟨ul, el, _⟩ := id atl
  have offK := below k uk ek
  have offl := below l ul el
  refine callType_codes (Q₁ := fun v z => v = .ref s.heap.objs.size ∧ z = { s with heap := s.heap.push { cls := .type "list", data := .seq #[] } }) F.called_list (F.typeCall_list_1 _) F.entry_list_init (code_list_new _ ⟨rfl, rfl⟩) ?_
  rintro v z ⟨rfl, rfl⟩
  have grows : ∀ q u, s.heap.get? q = some u → (s.heap.push { cls := .type "list", data := .seq #[] }).get? q = some u := fun q u e => Heap.get?_push_of_some _ e
  have at0 : (s.heap.push { cls := .type "list", data := .seq #[] }).get? s.heap.objs.size = some { cls := .type "list", data := .seq #[] } := Heap.get?_push_size _ rfl
  refine ⟨⟨_, at0, rfl⟩, F.args_list_init_2 _ _, ?_⟩
  -- what stands in the list goes: nothing
  simp only [Builtin.«list.__init__»]
  simp only [Builtin.List.listItems, Builtin.List.listUpdate]
  refine wpAny_bind ?_
  refine wpAny_bind (wpAny_seqItems at0 rfl (wpAny_pure ?_))
  try dsimp only
  refine wpAny_bind (wpAny_updateSeq at0 rfl (wpAny_bind (wpAny_letGo ?_)))
  have emptied : Stays s.heap.objs.size s.heap.objs.size s.heap _ := fun q u n _ e => (Heap.get?_update_other (h := s.heap.push { cls := .type "list", data := .seq #[] }) (Obj.mapSeq fun _ => (#[] : Array Value)) (Ne.symm n)).trans (grows q u e)
  have again0 := Heap.get?_update_self (Obj.mapSeq fun _ => (#[] : Array Value)) at0 rfl
  refine ext_rev (A := A.in1) (R := wants (fun r z => r = Value.none ∧ Q (.ref s.heap.objs.size) z) E) calm (atK.at fun o e => emptied k o offK.symm offK.symm e) (atl.at fun o e => emptied l o offl.symm offl.symm e) off fits again0 offK offl ?_
  intro h' tk acc c' stay new items
  exact ⟨rfl, post h' tk acc c' (fun q u nk e => stay q u nk (below q u e).symm (emptied q u (below q u e).symm (below q u e).symm e)) new items⟩
end
/-- list(reversed(x)), x a list: a new list, turned round -/
def tListRev (K : PySem.W.Frag) (te : TE) : TE := fun σ H Q => te σ H fun v H1 => ∃ (a : Addr) (xs : List V), v = .ref a ∧ SqL K H1 a xs ∧ ∀ q, H1 q = none → Q (.ref q) (upd H1 q (.lst xs.reverse))
theorem pe_listRev {X : Cx} {x : Expr} {tx : TE} {p1 p2 c1 c2 : Pos} (calm : X.calm = true) (gl : Gl X "list") (ml : X.mg "list" = none) (gr : Gl X "reversed") (mr : X.mg "reversed" = none) (px : PE X x tx)
    (one : starEach [x] X.env = [(false, eval x X.env)] := by rfl)
    (two : starEach [.Call (.Name "reversed" p2) [x] [] c2] X.env = [(false, eval (.Call (.Name "reversed" p2) [x] [] c2) X.env)] := by rfl) :
    PE X (.Call (.Name "list" p1) [.Call (.Name "reversed" p2) [x] [] c2] [] c1) (tListRev X.K tx) := by
  constructor
  intro pins s σ H Q inv want
  refine Call_ (ld_blt inv gl ml boot_list (PyProof.Rows.callWith_type1 (args_cons ?_ two) two rfl))
  refine Call_ (ld_blt inv gr mr PyProof.Rows.boot_reversed (PyProof.Rows.callWith_type1 (args_cons ?_ one) one rfl))
  refine thn (px.run pins s σ H _ inv want) ?_
  rintro _ s1 ⟨_, H1, inv1, rel, a, xs, rfl, isL, fin⟩
  cases rel
  obtain ⟨its, vals, at_, size⟩ := inv1.list isL
  have lst := at_.isList
  obtain ⟨u, eu, _⟩ := id lst
  have fits : its.toArray.size ≤ sizeLine := by
    rw [List.size_toArray, ← vals.length]
    exact size
  -- the reverse iterator is laid
  refine args_nil (call_reversed_list lst (args_nil ?_))
  generalize it0 : revObj a ((its.toArray.size : Int) - 1) = it
  have inv2 : Inv X pins σ H1 { s1 with heap := s1.heap.push it } := inv1.kept (t' := s1.toks) fun q u e => Heap.get?_push_of_some _ e
  have more : (s1.heap.push it).objs.size = s1.heap.objs.size + 1 := Heap.size_push _ _
  have free := inv1.hok.fresh (Nat.le_refl s1.heap.objs.size)
  have own := inv1.fpOk (H' := H1) (Nat.le_refl s1.heap.objs.size) free
  refine call_list_rev (s := { s1 with heap := s1.heap.push it }) (inv1.ok.hd calm) ⟨it, Heap.get?_push_size _ (by rw [← it0]; rfl), by rw [← it0]; rfl, by rw [← it0]; rfl⟩ (lst.push _) (Nat.ne_of_lt (Heap.lt_size eu)) fits fun h' tk acc c' stay new items => ?_
  have laid : ObjOk X.prog X.w (upd H1 (s1.heap.push it).objs.size (.lst xs.reverse)) h' (s1.heap.push it).objs.size (.lst xs.reverse) :=
    ⟨by rw [List.length_reverse]; exact size, acc.toList, c', vals_rev vals items, by rw [Array.toArray_toList]; exact new⟩
  have inv3 := inv2.turnedNew (t' := tk) (ch := [s1.heap.objs.size]) (fun q u n e => stay q u (fun z => n (z ▸ List.mem_singleton_self _)) e) (fun q z => List.mem_singleton.mp z ▸ own) (Nat.le_refl _) laid
  refine ⟨.ref _, _, inv3, rfl, fin _ (inv1.hok.fresh ?_)⟩
  show s1.heap.objs.size ≤ (s1.heap.push it).objs.size
  omega
end CF
namespace CF
open PySem PySem.Spec PyProof.Rows L2
open PySem.W (Codec)
abbrev sMeans : Stmt := top 20
abbrev sUni : Stmt := inClass (top 21) 8
abbrev sSame : Stmt := inClass (top 21) 9
abbrev sNow : Stmt := inClass (top 21) 10
abbrev sMeanW : Stmt := inClass (top 21) 11
abbrev sTurn : Stmt := inClass (top 21) 12
structure PTxt2 (K : PySem.W.Frag) (mg : Str → Option Value) : Prop where
  gS : mg "sum" = none
  gV : mg "reversed" = none
def mid (p q : Rat) : Rat := (p + q) / 2
def spMeans : Sp := fun vs H Q _ => ∃ (a b : Addr) (ws us : List V) (ps qs : List Rat), vs = [.ref a, .ref b] ∧ H a = some (.lst ws) ∧ H b = some (.lst us) ∧ Frs H ws ps ∧ Frs H us qs ∧ ps.length = qs.length ∧ ps.length ≤ 1000 ∧ (∀ p ∈ ps, Fit 4400 p) ∧ (∀ q ∈ qs, Fit 4400 q) ∧
  ∀ H' l zs, Same H H' → H l = none → H' l = some (.lst zs) → Frs H' zs (List.zipWith mid ps qs) → Q (.ref l) H'
theorem yes2 {A B : Hp → Prop} {σ : L2.St} {H : Hp} (h : A H) : tYes σ H (fun b H3 => if b = true then A H3 else B H3) := by
  show if true = true then A H else B H
  rw [if_pos rfl]
  exact h
theorem zipWith_at {f : Rat → Rat → Rat} {ps qs : List Rat} {i : Nat} {p q : Rat} (hp : ps[i]? = some p) (hq : qs[i]? = some q) : (List.zipWith f ps qs)[i]? = some (f p q) := by
  rw [List.getElem?_zipWith, hp, hq]
section
variable {P : Program} {w : World} {K : PySem.W.Frag} {mg : Str → Option Value} {base : Heap}
theorem scMs : FnScope ["firsts", "seconds", "first", "second"] ["firsts", "seconds"] (defScope sMeans) := ⟨rfl, rfl, rfl, by decide +kernel, rfl, by decide +kernel, by decide +kernel⟩
theorem ok_means {f : Addr} {fd : FuncData} (F : Fun K "means" "means" sMeans f fd) (gZ : mg "zip" = none) (G : DefOk CX0 P w K mg base 4 "mean" ["first", "second"] spMean) : FnOk P w K mg base CX0 5 f fd ["firsts", "seconds"] spMeans := by
  refine F.ok scMs (fun vs H Q E h => ?_) (fun cdv A outer s H vs Q E hr h => ⟨_, pss_one (ps_ret (pe_lc (own := [("first", 2), ("second", 3)]) (g := gTup K 2 (gCons (gName 2) (gCons (gName 3) gNil))) (tt := tYes) rfl scMs.nd (pi_zip (by rfl) gZ (pa_cons (pv 0) (pa_cons (pv 1) pa_nil)))
      (blkOk_by (own := [("first", 2), ("second", 3)]) (N := ["firsts", "seconds", "first", "second"]) (sc := defScope sMeans) (by decide +kernel))
      (fun _ _ _ _ _ => by exact pg_tup rfl (pgs_cons (pg_name (i := 2) scMs.nd rfl (Or.inl rfl)) (pgs_cons (pg_name (i := 3) scMs.nd rfl (Or.inl rfl)) pgs_nil)))
      (fun _ _ _ _ _ => pts_nil)
      (fun _ _ _ _ _ => pe_d G hr (by decide) rfl pass0 (pa_cons (pv 2) (pa_cons (pv 3) pa_nil))))), ?_⟩)
  · obtain ⟨a, b, ws, us, ps, qs, rfl, _⟩ := h
    rfl
  · obtain ⟨a, b, ws, us, ps, qs, rfl, ha, hb, h1, h2, hl, small, fit1, fit2, k⟩ := h
    have l1 := h1.length
    have l2 := h2.length
    refine ⟨_, rfl, _, rfl, a, b, ws, us, rfl, SqL.of ha, SqL.of hb, fun D hD => ?_⟩
    have sD : Same H (upd H D (.lst [])) := same_upd hD
    refine lc_it (walk_zip (K := K) (a := a) (b := b) (xs := ws) (ys := us) (n := ws.length) (by omega)) (fun i H' => ∃ acc, Same H H' ∧ H' D = some (.lst acc) ∧ Frs H' acc ((List.zipWith mid ps qs).take i))
      ⟨[], sD, upd_same, trivial⟩ (fun i H' _ ⟨_, s, _⟩ => ⟨SqL.of (s _ _ ha), SqL.of (s _ _ hb)⟩) ?_ ?_
    · rintro i x H1 H2 hi ⟨acc, s1, hd, hacc⟩ ⟨T, x1, y1, rfl, hT, rfl, e1, e2⟩
      have hip : i < ps.length := by omega
      have hiq : i < qs.length := by omega
      have q1 := List.getElem?_eq_getElem hip
      have q2 := List.getElem?_eq_getElem hiq
      obtain ⟨a1, rfl, f1⟩ := h1.get e1 q1
      obtain ⟨a2, rfl, f2⟩ := h2.get e2 q2
      have sT : Same H1 (upd H1 T (.tup [.ref a1, .ref a2])) := same_upd hT
      have s2 := s1.trans sT
      refine ⟨T, _, rfl, SqT.of upd_same, rfl, _, _, rfl, _, _, rfl, rfl, rfl, yes2 ?_⟩
      refine ⟨_, rfl, _, rfl, a1, a2, _, _, rfl, f1.same s2, f2.same s2, fit1 _ (List.getElem_mem hip), fit2 _ (List.getElem_mem hiq), fun H4 r s4 fr => ?_⟩
      have hd4 := s4 _ _ (sT _ _ hd)
      have la : acc.length = i := by
        rw [hacc.length, List.length_take, List.length_zipWith]
        omega
      refine ⟨acc, hd4, by show acc.length < 16777216; omega, ?_⟩
      have k3 : Keep [D] H4 (upd H4 D (.lst (acc ++ [.ref r]))) := Keep.put (by simp)
      have ntup : ∀ b ∈ [D], ∀ o, H4 b = some o → isTup o = false := by
        intro b hb o e
        have e' : b = D := by simpa using hb
        rw [e', hd4] at e
        cases e
        rfl
      refine ⟨_, fun b o e => k3 b o (s4 _ _ (s2 _ _ e)) (by simpa using ne_of_none e hD), upd_same, ?_⟩
      rw [take_more (zipWith_at q1 q2)]
      exact Frs.append (hacc.mono fun a q f => (f.same (sT.trans s4)).keep k3 ntup) (Frs.one (fr.keep k3 ntup))
    · rintro H1 ⟨acc, s1, hd, hacc⟩
      have e : (List.zipWith mid ps qs).take ws.length = List.zipWith mid ps qs := List.take_of_length_le (by rw [List.length_zipWith]; omega)
      rw [e] at hacc
      exact k H1 D acc s1 hD hd hacc
end
end CF
namespace CF
open PySem PySem.Spec PyProof.Rows L2
open PySem.W (Codec Datum)
/-! the specification's words, in the program's order -/
theorem foldl_addN (l : List Nat) : ∀ a : Nat, l.foldl (fun x y => x + y) a = a + l.foldl (fun x y => x + y) 0 := by
  induction l with
  | nil => intro a; rfl
  | cons x r ih =>
    intro a
    show r.foldl _ (a + x) = a + r.foldl _ (0 + x)
    rw [ih (a + x), ih (0 + x)]
    omega
theorem cap_total : ∀ cells : List Kqk1.Cell, (cells.map fun c => (c.rockCapacity : Int)).sum + (cells.length : Int) = ((Kqk1.totalCapacity cells : Nat) : Int)
  | [] => rfl
  | c :: r => by
    have ih := cap_total r
    have e : Kqk1.totalCapacity (c :: r) = (c.rockCapacity + 1) + Kqk1.totalCapacity r := by
      show (r.map fun c => c.rockCapacity + 1).foldl (fun x y => x + y) (0 + (c.rockCapacity + 1)) = _
      rw [foldl_addN, Nat.zero_add]
      rfl
    rw [e, List.map_cons, List.sum_cons, List.length_cons]
    omega
theorem caps_eq : ∀ l m : List Kqk1.Cell, Kqk1.haveEqualCapacities l m = decide (capsOf l = capsOf m)
  | [], [] => rfl
  | [], _ :: _ => rfl
  | _ :: _, [] => rfl
  | a :: l, b :: m => by
    have ih := caps_eq l m
    have e1 : Kqk1.haveEqualCapacities (a :: l) (b :: m) = (a.rockCapacity == b.rockCapacity && Kqk1.haveEqualCapacities l m) := by
      unfold Kqk1.haveEqualCapacities
      rw [List.zip_cons_cons, List.all_cons, List.length_cons, List.length_cons]
      have e : (l.length + 1 == m.length + 1) = (l.length == m.length) := by
        rw [Bool.eq_iff_iff, beq_iff_eq, beq_iff_eq]
        omega
      rw [e]
      cases (l.length == m.length) <;> cases (a.rockCapacity == b.rockCapacity) <;> simp
    have e2 : decide (capsOf (a :: l) = capsOf (b :: m)) = (decide (a.rockCapacity = b.rockCapacity) && decide (capsOf l = capsOf m)) := by
      rw [← Bool.decide_and]
      refine decide_eq_decide.mpr ?_
      unfold capsOf
      rw [List.map_cons, List.map_cons, List.cons.injEq]
    rw [e1, e2, ih]
    congr 1
theorem caps_len {l m : List Kqk1.Cell} (h : capsOf l = capsOf m) : l.length = m.length := by
  have := congrArg List.length h
  unfold capsOf at this
  rw [List.length_map, List.length_map] at this
  exact this
/-- nowhere less -/
def noLess : List Rat → List Rat → Bool
  | a :: l, b :: m => !decide (a < b) && noLess l m
  | _, _ => true
theorem noLess_append : ∀ {l m l2 m2 : List Rat}, l.length = m.length → noLess (l ++ l2) (m ++ m2) = (noLess l m && noLess l2 m2)
  | [], [], _, _, _ => rfl
  | a :: l, b :: m, l2, m2, h => by
    have ih := noLess_append (l := l) (m := m) (l2 := l2) (m2 := m2) (by simpa using h)
    show (!decide (a < b) && noLess (l ++ l2) (m ++ m2)) = (!decide (a < b) && noLess l m && noLess l2 m2)
    rw [ih, Bool.and_assoc]
  | [], _ :: _, _, _, h => by simp at h
  | _ :: _, [], _, _, h => by simp at h
theorem le_less (a b : Rat) : decide (b ≤ a) = !decide (a < b) := by
  rw [Bool.eq_iff_iff, decide_eq_true_eq, Bool.not_eq_true', decide_eq_false_iff_not, Rat.not_lt]
theorem now_is : ∀ l m : List Kqk1.Cell, Kqk1.isNowhereColder l m = (decide (capsOf l = capsOf m) && noLess (temps l) (temps m))
  | [], [] => rfl
  | [], _ :: _ => rfl
  | _ :: _, [] => rfl
  | a :: l, b :: m => by
    have ih := now_is l m
    have e1 : Kqk1.isNowhereColder (a :: l) (b :: m) = ((a.rockCapacity == b.rockCapacity && decide (b.rock ≤ a.rock) && decide (b.water ≤ a.water)) && Kqk1.isNowhereColder l m) := by
      unfold Kqk1.isNowhereColder
      rw [List.zip_cons_cons, List.all_cons, List.length_cons, List.length_cons]
      have e : (l.length + 1 == m.length + 1) = (l.length == m.length) := by
        rw [Bool.eq_iff_iff, beq_iff_eq, beq_iff_eq]
        omega
      rw [e]
      cases (l.length == m.length) <;> simp
    have e2 : decide (capsOf (a :: l) = capsOf (b :: m)) = (a.rockCapacity == b.rockCapacity && decide (capsOf l = capsOf m)) := by
      have e0 : (a.rockCapacity == b.rockCapacity) = decide (a.rockCapacity = b.rockCapacity) := by rw [Bool.eq_iff_iff, beq_iff_eq, decide_eq_true_eq]
      rw [e0, ← Bool.decide_and]
      refine decide_eq_decide.mpr ?_
      unfold capsOf
      rw [List.map_cons, List.map_cons, List.cons.injEq]
    rw [e1, e2, ih, le_less, le_less]
    cases hc : decide (capsOf l = capsOf m) with
    | false => simp
    | true =>
      have hl := caps_len (of_decide_eq_true hc)
      have h1 : (l.map Kqk1.Cell.rock).length = (m.map Kqk1.Cell.rock).length := by rw [List.length_map, List.length_map, hl]
      have h2 : ((a :: l).map Kqk1.Cell.rock).length = ((b :: m).map Kqk1.Cell.rock).length := by rw [List.length_map, List.length_map, List.length_cons, List.length_cons, hl]
      unfold temps
      rw [noLess_append h1, noLess_append h2]
      show _ = (a.rockCapacity == b.rockCapacity && true && ((!decide (a.rock < b.rock) && noLess (l.map Kqk1.Cell.rock) (m.map Kqk1.Cell.rock)) && (!decide (a.water < b.water) && noLess (l.map Kqk1.Cell.water) (m.map Kqk1.Cell.water))))
      cases (a.rockCapacity == b.rockCapacity) <;> cases decide (a.rock < b.rock) <;> cases decide (a.water < b.water) <;> cases noLess (l.map Kqk1.Cell.rock) (m.map Kqk1.Cell.rock) <;> rfl
theorem noLess_at : ∀ {l m : List Rat} {i : Nat} {x y : Rat}, l[i]? = some x → m[i]? = some y → x < y → noLess l m = false
  | [], _, _, _, _, h, _, _ => by simp at h
  | _ :: _, [], _, _, _, _, h, _ => by simp at h
  | a :: l, b :: m, 0, x, y, h1, h2, h => by
    simp at h1 h2
    subst h1 h2
    show (!decide (a < b) && _) = false
    rw [decide_eq_true h]
    rfl
  | a :: l, b :: m, i + 1, x, y, h1, h2, h => by
    have ih := noLess_at (l := l) (m := m) (i := i) (by simpa using h1) (by simpa using h2) h
    show (!decide (a < b) && noLess l m) = false
    rw [ih, Bool.and_false]
theorem noLess_all : ∀ {l m : List Rat}, (∀ (i : Nat) (x y : Rat), l[i]? = some x → m[i]? = some y → ¬ x < y) → noLess l m = true
  | [], _, _ => by cases ‹List Rat› <;> rfl
  | _ :: _, [], _ => rfl
  | a :: l, b :: m, h => by
    have ih := noLess_all (l := l) (m := m) fun i x y h1 h2 => h (i + 1) x y (by simpa using h1) (by simpa using h2)
    show (!decide (a < b) && noLess l m) = true
    rw [ih, decide_eq_false (h 0 a b rfl rfl)]
    rfl
theorem mean_rock : ∀ l m : List Kqk1.Cell, (Kqk1.mean l m).map Kqk1.Cell.rock = List.zipWith mid (l.map Kqk1.Cell.rock) (m.map Kqk1.Cell.rock)
  | [], _ => by cases ‹List Kqk1.Cell› <;> rfl
  | _ :: _, [] => rfl
  | a :: l, b :: m => by
    have ih := mean_rock l m
    show mid a.rock b.rock :: (Kqk1.mean l m).map Kqk1.Cell.rock = mid a.rock b.rock :: _
    rw [ih]
theorem mean_water : ∀ l m : List Kqk1.Cell, (Kqk1.mean l m).map Kqk1.Cell.water = List.zipWith mid (l.map Kqk1.Cell.water) (m.map Kqk1.Cell.water)
  | [], _ => by cases ‹List Kqk1.Cell› <;> rfl
  | _ :: _, [] => rfl
  | a :: l, b :: m => by
    have ih := mean_water l m
    show mid a.water b.water :: (Kqk1.mean l m).map Kqk1.Cell.water = mid a.water b.water :: _
    rw [ih]
theorem mean_caps : ∀ {l m : List Kqk1.Cell}, l.length = m.length → capV (Kqk1.mean l m) = capV l
  | [], [], _ => rfl
  | a :: l, b :: m, h => by
    have ih := mean_caps (l := l) (m := m) (by simpa using h)
    show V.int (a.rockCapacity : Int) :: capV (Kqk1.mean l m) = V.int (a.rockCapacity : Int) :: capV l
    rw [ih]
  | [], _ :: _, h => by simp at h
  | _ :: _, [], h => by simp at h
/-! == of two lists of ints -/
theorem dpAll_ints {K : PySem.W.Frag} {H : Hp} : ∀ ns : List Int, DpAll K H (ns.map V.int) (ns.map Datum.toD)
  | [] => .nil
  | n :: ns => .cons (.int n) (dpAll_ints ns)
theorem canLay_ints : ∀ ns : List Int, PyData.canLayAll0 (ns.map Datum.toD) = true
  | [] => rfl
  | n :: ns => by
    rw [List.map_cons, PyData.canLayAll0, canLay_ints ns]
    rfl
theorem shaped_ints (ns : List Int) : SeqAt.shaped (.list (ns.map Datum.toD)) = true := by
  unfold SeqAt.shaped
  rw [Bool.and_eq_true]
  refine ⟨?_, decide_eq_true ?_⟩
  · rw [PyData.canLay0]
    exact canLay_ints ns
  · exact Nat.le_trans (Datum.depth_le (α := List Int) ns) (by decide)
theorem eqv_ints (ns ms : List Int) : PyData.eqv (.list (ns.map Datum.toD)) (.list (ms.map Datum.toD)) = decide (ns = ms) := Datum.eqv (α := List Int) ns ms
/-! the methods -/
def spUni (C : Addr) : Sp := fun vs H Q _ => ∃ p fp cells, ∃ t : Nat, vs = [.ref p, .int (t : Int)] ∧ Prof C H p fp cells ∧ t < 2 ^ 40 ∧ Kqk1.totalCapacity cells < 2 ^ 20 ∧
  ∀ H' r, Same H H' → FrA H' r ((t : Rat) * ((Kqk1.totalCapacity cells : Nat) : Rat)) → Q (.ref r) H'
def spSame (C : Addr) : Sp := fun vs H Q _ => ∃ p fp cells q fq dells, vs = [.ref p, .ref q] ∧ Prof C H p fp cells ∧ Prof C H q fq dells ∧ Q (.bl (decide (capsOf cells = capsOf dells))) H
def spNow (C : Addr) : Sp := fun vs H Q _ => ∃ p fp cells q fq dells, vs = [.ref p, .ref q] ∧ Prof C H p fp cells ∧ Prof C H q fq dells ∧ CellsFit cells ∧ CellsFit dells ∧ cells.length ≤ 1000 ∧ dells.length ≤ 1000 ∧
  ∀ H', Same H H' → Q (.bl (Kqk1.isNowhereColder cells dells)) H'
def spMeanW (C : Addr) : Sp := fun vs H Q _ => ∃ p fp cells q fq dells, vs = [.ref p, .ref q] ∧ Prof C H p fp cells ∧ Prof C H q fq dells ∧ CellsFit cells ∧ CellsFit dells ∧ cells.length = dells.length ∧ cells.length ≤ 1000 ∧
  ∀ H' p' fp', Same H H' → Prof C H' p' fp' (Kqk1.mean cells dells) → (∀ b ∈ fp', H b = none) → Q (.ref p') H'
def spTurn (C : Addr) : Sp := fun vs H Q _ => ∃ p fp cells, vs = [.ref p] ∧ Prof C H p fp cells ∧ ∀ H' p' fp', Same H H' → Prof C H' p' fp' cells.reverse → (∀ b ∈ fp', H b = none) → Q (.ref p') H'
def capI (cells : List Kqk1.Cell) : List Int := cells.map fun c => (c.rockCapacity : Int)
theorem capI_is (cells : List Kqk1.Cell) : capV cells = (capI cells).map V.int := by
  unfold capV capI
  rw [List.map_map]
  rfl
theorem capI_caps (l m : List Kqk1.Cell) : decide (capI l = capI m) = decide (capsOf l = capsOf m) := by
  refine decide_eq_decide.mpr ⟨fun h => ?_, fun h => ?_⟩
  · have e : ∀ l : List Kqk1.Cell, capsOf l = (capI l).map Int.toNat := fun l => by
      unfold capsOf capI
      rw [List.map_map]
      rfl
    rw [e, e, h]
  · have e : ∀ l : List Kqk1.Cell, capI l = (capsOf l).map fun n : Nat => (n : Int) := fun l => by
      unfold capsOf capI
      rw [List.map_map]
      rfl
    rw [e, e, h]
theorem fit_temps {cells : List Kqk1.Cell} (h : CellsFit cells) : ∀ q ∈ temps cells, Fit 4400 q := by
  intro q hq
  unfold temps at hq
  rcases List.mem_append.mp hq with z | z
  · obtain ⟨c, hc, rfl⟩ := List.mem_map.mp z
    exact (h c hc).2.1
  · obtain ⟨c, hc, rfl⟩ := List.mem_map.mp z
    exact (h c hc).2.2
theorem temps_len (cells : List Kqk1.Cell) : (temps cells).length = 2 * cells.length := by
  unfold temps
  rw [List.length_append, List.length_map, List.length_map]
  omega
theorem Frs.reverse {H : Hp} : ∀ {vs : List V} {qs : List Rat}, Frs H vs qs → Frs H vs.reverse qs.reverse
  | [], [], _ => trivial
  | v :: vs, q :: qs, h => by
    rw [List.reverse_cons, List.reverse_cons]
    exact Frs.append (Frs.reverse h.2) ⟨h.1, trivial⟩
  | [], _ :: _, h => h.elim
  | _ :: _, [], h => h.elim
section
variable {P : Program} {w : World} {K : PySem.W.Frag} {mg : Str → Option Value} {base : Heap} {C : Addr}
theorem scUn : FnScope ["self", "temperature"] ["self", "temperature"] (defScope sUni) := ⟨rfl, rfl, rfl, by decide +kernel, rfl, by decide +kernel, by decide +kernel⟩
theorem ok_uni {f : Addr} {fd : FuncData} (F : Fun K "uniform_heat" "Profile.uniform_heat" sUni f fd) (T : PTxt K mg C) (T2 : PTxt2 K mg) (GW : DefOk CX0 P w K mg base 1 "whole" ["number"] spWhole) (GC : MetOk CX0 P w K mg base 1 C "cell_count" ["self"] (spCount C)) : FnOk P w K mg base CX0 2 f fd ["self", "temperature"] (spUni C) := by
  refine F.ok scUn (fun vs H Q E h => ?_) (fun cdv A outer s H vs Q E hr h => ⟨_, pss_one (ps_ret (pe_d GW hr (by decide) rfl pass0 (pa_cons (pe_op op_mulW (pv 1) (pe_op op_add (pe_callB (cr_sum rfl) (by rfl) T2.gS boot_sum (pa_cons (pe_fld (pv 0) rfl) pa_nil)) (pe_m0' GC T.cl hr (by decide) pass0 (pv 0)))) pa_nil))), ?_⟩)
  · obtain ⟨p, fp, cells, t, rfl, _⟩ := h
    rfl
  · obtain ⟨p, fp, cells, t, rfl, hP, ht, hc, k⟩ := h
    obtain ⟨lc, lr, lw, rs, ws, rfl, hL⟩ := id hP
    obtain ⟨dx, ho⟩ := hL.obj
    have hcap := hL.caps
    rw [capI_is] at hcap
    have b1 : ((t : Int)).natAbs < 2 ^ 40 := by omega
    have e := cap_total cells
    have b2 : ((capI cells).sum + (cells.length : Int)).natAbs < 2 ^ 20 := by
      show ((cells.map fun c => (c.rockCapacity : Int)).sum + (cells.length : Int)).natAbs < 2 ^ 20
      rw [e]
      omega
    refine ⟨_, rfl, _, rfl, p, C, dx, _, _, rfl, ho, T.cl, T.nC, pF_c, lc, capI cells, rfl, SqL.of hcap, _, rfl, p, dx, _, rfl, ho, pF_none (by decide +kernel), p, _, cells, rfl, hP, _, _, rfl, rfl, _, _, rfl, rfl, wide_mul b1 b2 (by decide) (by decide) (by decide), _, rfl, fun H' r s h => k H' r s ?_⟩
    have e2 : (((t : Int) * ((capI cells).sum + (cells.length : Int)) : Int) : Rat) = (t : Rat) * ((Kqk1.totalCapacity cells : Nat) : Rat) := by
      show (((t : Int) * ((cells.map fun c => (c.rockCapacity : Int)).sum + (cells.length : Int)) : Int) : Rat) = _
      rw [e, icast_mul]
      rfl
    rw [← e2]
    exact h
theorem scSa : FnScope ["self", "other"] ["self", "other"] (defScope sSame) := ⟨rfl, rfl, rfl, by decide +kernel, rfl, by decide +kernel, by decide +kernel⟩
theorem ok_same {f : Addr} {fd : FuncData} (F : Fun K "same_cells" "Profile.same_cells" sSame f fd) (T : PTxt K mg C) : FnOk P w K mg base CX0 1 f fd ["self", "other"] (spSame C) := by
  refine F.ok scSa (fun vs H Q E h => ?_) (fun cdv A outer s H vs Q E hr h => ⟨_, pss_one (ps_ret (pe_cmpR (op_eqD hr.units) (pe_fld (pv 0) rfl) (pe_fld (pv 1) rfl) (nomark _))), ?_⟩)
  · obtain ⟨p, fp, cells, q, fq, dells, rfl, _⟩ := h
    rfl
  · obtain ⟨p, fp, cells, q, fq, dells, rfl, hP, hQ, k⟩ := h
    obtain ⟨lc, lr, lw, rs, ws, rfl, hL⟩ := id hP
    obtain ⟨dx, ho⟩ := hL.obj
    obtain ⟨mc, mr, mw, rs', ws', rfl, hM⟩ := id hQ
    obtain ⟨dx', ho'⟩ := hM.obj
    have h1 := hL.caps
    have h2 := hM.caps
    rw [capI_is] at h1 h2
    refine ⟨_, rfl, p, C, dx, _, _, rfl, ho, T.cl, T.nC, pF_c, _, rfl, q, C, dx', _, _, rfl, ho', T.cl, T.nC, pF_c, _, _, .lst (SqL.of h1) (dpAll_ints _), .lst (SqL.of h2) (dpAll_ints _), shaped_ints _, shaped_ints _, ?_⟩
    rw [eqv_ints, capI_caps]
    exact k
theorem scNo : FnScope ["self", "other", "own", "others"] ["self", "other"] (defScope sNow) := ⟨rfl, rfl, rfl, by decide +kernel, rfl, by decide +kernel, by decide +kernel⟩
theorem ok_now {f : Addr} {fd : FuncData} (F : Fun K "nowhere_colder" "Profile.nowhere_colder" sNow f fd) (T : PTxt K mg C) (GS : MetOk CX0 P w K mg base 1 C "same_cells" ["self", "other"] (spSame C)) (GM : MetOk CX0 P w K mg base 1 C "temperatures" ["self"] (spTemps C))
    (GL : DefOk CX0 P w K mg base 1 "is_less" ["first", "second"] spLess) : FnOk P w K mg base CX0 2 f fd ["self", "other"] (spNow C) := by
  refine F.ok scNo (fun vs H Q E h => ?_) (fun cdv A outer s H vs Q E hr h => ⟨_, pss_cons (ps_if (pt_not (pt_val (pe_m GS T.cl hr (by decide) pass0 (pv 0) (pa_cons (pv 1) pa_nil)))) (pss_one (ps_ret pe_bl)) pss_nil)
    (pss_cons (ps_for PassesOwn.never rfl (pi_zip (by rfl) T.gZ (pa_cons (pe_m0' GM T.cl hr (by decide) pass0 (pv 0)) (pa_cons (pe_m0' GM T.cl hr (by decide) pass0 (pv 1)) pa_nil)))
        (pg_tup rfl (pgs_cons (pg_name (i := 2) scNo.nd rfl (Or.inl rfl)) (pgs_cons (pg_name (i := 3) scNo.nd rfl (Or.inl rfl)) pgs_nil)))
        (pss_one (ps_if (pt_val (pe_d GL hr (by decide) rfl pass0 (pa_cons (pv 2) (pa_cons (pv 3) pa_nil)))) (pss_one (ps_ret pe_bl)) pss_nil)))
    (pss_one (ps_ret pe_bl))), ?_⟩)
  · obtain ⟨p, fp, cells, q, fq, dells, rfl, _⟩ := h
    rfl
  · obtain ⟨p, fp, cells, q, fq, dells, rfl, hP, hQ, fit1, fit2, sm1, sm2, k⟩ := h
    obtain ⟨dx, lc, lr, lw, ho⟩ := prof_obj hP
    obtain ⟨dx', mc, mr, mw, ho'⟩ := prof_obj hQ
    rw [now_is] at k
    refine ⟨_, rfl, p, dx, _, rfl, ho, pF_none (by decide +kernel), _, rfl, p, fp, cells, q, fq, dells, rfl, hP, hQ, _, rfl, ifB (fun c => ?_) (fun c => ?_)⟩
    · have c1 : decide (capsOf cells = capsOf dells) = false := by simpa using c
      rw [c1, Bool.false_and] at k
      exact k H (Same.refl H)
    · have c1 : decide (capsOf cells = capsOf dells) = true := by simpa using c
      have hl := caps_len (of_decide_eq_true c1)
      rw [c1, Bool.true_and] at k
      refine ⟨_, rfl, p, dx, _, rfl, ho, pF_none (by decide +kernel), p, fp, cells, rfl, hP, sm1, fun H1 l1 w1 s1 hl1 h1 fr1 => ?_⟩
      refine ⟨_, rfl, q, dx', _, rfl, s1 _ _ ho', pF_none (by decide +kernel), q, fq, dells, rfl, hQ.same s1, sm2, fun H2 l2 w2 s2 hl2 h2 fr2 => ?_⟩
      have s02 := s1.trans s2
      have e1 := fr1.length
      have e2 := fr2.length
      have t1 := temps_len cells
      have t2 := temps_len dells
      unfold temps at t1 t2
      have h1' := s2 _ _ h1
      refine ⟨l1, l2, w1, w2, rfl, SqL.of h1', SqL.of h2, for_it (walk_zip (K := K) (a := l1) (b := l2) (xs := w1) (ys := w2) (n := w1.length) (by omega))
        (fun i σ H' => ∃ v2 v3, σ = [some (.ref p), some (.ref q), v2, v3] ∧ Same H2 H' ∧ ∀ j x y, j < i → (temps cells)[j]? = some x → (temps dells)[j]? = some y → ¬ x < y)
        ⟨none, none, rfl, Same.refl _, fun j _ _ h => absurd h (Nat.not_lt_zero j)⟩ (fun i σ H' _ ⟨_, _, _, s, _⟩ => ⟨SqL.of (s _ _ h1'), SqL.of (s _ _ h2)⟩) ?_ ?_⟩
      · rintro i x σ H3 H4 hi ⟨v2, v3, rfl, s3, hno⟩ ⟨Tt, x1, y1, rfl, hT, rfl, g1, g2⟩
        have hi1 : i < (temps cells).length := by unfold temps; omega
        have hi2 : i < (temps dells).length := by unfold temps; omega
        have q1 := List.getElem?_eq_getElem hi1
        have q2 := List.getElem?_eq_getElem hi2
        obtain ⟨a1, rfl, f1⟩ := fr1.get g1 q1
        obtain ⟨a2, rfl, f2⟩ := fr2.get g2 q2
        have sT : Same H3 (upd H3 Tt (.tup [.ref a1, .ref a2])) := same_upd hT
        have s4 := s3.trans sT
        refine ⟨Tt, _, rfl, SqT.of upd_same, rfl, _, _, rfl, _, _, rfl, rfl, _, rfl, _, rfl, a1, a2, _, _, rfl, (f1.same s2).same s4, f2.same s4, fit_temps fit1 _ (List.getElem_mem hi1), fit_temps fit2 _ (List.getElem_mem hi2), _, rfl, ifB (fun c => ?_) (fun c => ?_)⟩
        · have c2 := of_decide_eq_true c
          rw [noLess_at q1 q2 c2] at k
          exact k _ (s02.trans s4)
        · have c2 := of_decide_eq_false c
          refine ⟨_, _, rfl, s4, fun j x y hj hx hy => ?_⟩
          by_cases e : j = i
          · subst e
            rw [q1] at hx
            rw [q2] at hy
            cases hx
            cases hy
            exact c2
          · exact hno j x y (by omega) hx hy
      · rintro σ H3 ⟨v2, v3, rfl, s3, hno⟩
        have e3 : noLess (temps cells) (temps dells) = true := noLess_all fun i x y hx hy => hno i x y (by
          have := (List.getElem?_eq_some_iff.mp hx).1
          unfold temps at this
          omega) hx hy
        rw [e3] at k
        exact k _ (s02.trans s3)
/-- Profile(xs, ys, zs) of three lists: what a caller makes of it -/
theorem make_prof {H0 : Hp} {Q : VK} {x dx a b c : Addr} {ys zs : List V} {cells : List Kqk1.Cell} (nx : H0 x = none) (nd : H0 dx = none) (ne : dx ≠ x) (ha : H0 a = some (.lst (capV cells))) (hb : H0 b = some (.lst ys)) (hc : H0 c = some (.lst zs))
    (hy : Frs H0 ys (cells.map Kqk1.Cell.rock)) (hz : Frs H0 zs (cells.map Kqk1.Cell.water)) {E : XK}
    (k : ∀ H' fp', Same H0 H' → Prof C H' x fp' cells → (∀ b ∈ fp', H0 b = none) → Q (.ref x) H') :
    spPInit K C [.ref x, .ref a, .ref b, .ref c] (upd (upd H0 dx (.own x)) x (.ins C dx [])) (fun v H => v = .non ∧ Q (.ref x) H) E := by
  have s0 : Same H0 (upd (upd H0 dx (.own x)) x (.ins C dx [])) := (same_upd nd).trans (same_upd (by rw [upd_ne ne.symm]; exact nx))
  refine ⟨x, dx, a, b, c, _, _, _, rfl, upd_same, SqL.of (s0 _ _ ha), SqL.of (s0 _ _ hb), SqL.of (s0 _ _ hc), ne_of_none ha nx, ne_of_none hb nx, ne_of_none hc nx, ?_⟩
  intro H' l1 l2 l3 k1 hp' g1 g2 g3 n12 n13 n23 f1 f2 f3
  have s1 : Same H0 H' := fun b o e => k1 b o (s0 b o e) (by simpa using ne_of_none e nx)
  refine ⟨rfl, k H' [x, l1, l2, l3] s1 ⟨l1, l2, l3, _, _, rfl, ⟨⟨dx, hp'⟩, g1, g2, g3, hy.mono fun a q f => s1 _ _ f, hz.mono fun a q f => s1 _ _ f, n12, n13, n23⟩⟩ fun b hb => ?_⟩
  have e : b = x ∨ b = l1 ∨ b = l2 ∨ b = l3 := by simpa using hb
  rcases e with rfl | rfl | rfl | rfl
  · exact nx
  · exact s0.free f1
  · exact s0.free f2
  · exact s0.free f3
theorem scMw : FnScope ["self", "other", "rock", "water"] ["self", "other"] (defScope sMeanW) := ⟨rfl, rfl, rfl, by decide +kernel, rfl, by decide +kernel, by decide +kernel⟩
theorem ok_meanw {f : Addr} {fd : FuncData} (F : Fun K "mean_with" "Profile.mean_with" sMeanW f fd) (T : PTxt K mg C) (GM : DefOk CX0 P w K mg base 5 "means" ["firsts", "seconds"] spMeans)
    (M : MakOk CX0 P w K mg base 1 "Profile" C ["self", "rock_capacities", "rock_temperatures", "water_temperatures"] (spPInit K C)) : FnOk P w K mg base CX0 6 f fd ["self", "other"] (spMeanW C) := by
  refine F.ok scMw (fun vs H Q E h => ?_) (fun cdv A outer s H vs Q E hr h => ⟨_, pss_cons (ps_set (i := 2) scMw.nd rfl (Or.inl rfl) (pe_d GM hr (by decide) rfl pass0 (pa_cons (pe_fld (pv 0) rfl) (pa_cons (pe_fld (pv 1) rfl) pa_nil))))
    (pss_cons (ps_set (i := 3) scMw.nd rfl (Or.inl rfl) (pe_d GM hr (by decide) rfl pass0 (pa_cons (pe_fld (pv 0) rfl) (pa_cons (pe_fld (pv 1) rfl) pa_nil))))
    (pss_one (ps_ret (pe_k M hr (by decide) rfl pass0 (pa_cons (pe_fld (pv 0) rfl) (pa_cons (pv 2) (pa_cons (pv 3) pa_nil))))))), ?_⟩)
  · obtain ⟨p, fp, cells, q, fq, dells, rfl, _⟩ := h
    rfl
  · obtain ⟨p, fp, cells, q, fq, dells, rfl, hP, hQ, fit1, fit2, hlen, sm, k⟩ := h
    obtain ⟨lc, lr, lw, rs, ws, rfl, hL⟩ := id hP
    obtain ⟨dx, ho⟩ := hL.obj
    obtain ⟨mc, mr, mw, rs', ws', rfl, hM⟩ := id hQ
    obtain ⟨dx', ho'⟩ := hM.obj
    have fr : ∀ {l : List Kqk1.Cell}, CellsFit l → ∀ q ∈ l.map Kqk1.Cell.rock, Fit 4400 q := fun h q hq => by
      obtain ⟨c, hc, rfl⟩ := List.mem_map.mp hq
      exact (h c hc).2.1
    have fw : ∀ {l : List Kqk1.Cell}, CellsFit l → ∀ q ∈ l.map Kqk1.Cell.water, Fit 4400 q := fun h q hq => by
      obtain ⟨c, hc, rfl⟩ := List.mem_map.mp hq
      exact (h c hc).2.2
    refine ⟨_, rfl, p, C, dx, _, _, rfl, ho, T.cl, T.nR, pF_r, _, rfl, q, C, dx', _, _, rfl, ho', T.cl, T.nR, pF_r, lr, mr, rs, rs', _, _, rfl, hL.rock, hM.rock, hL.rq, hM.rq, by rw [List.length_map, List.length_map, hlen], by rw [List.length_map]; exact sm, fr fit1, fr fit2, fun H1 l1 z1 s1 f1 g1 fr1 => ?_⟩
    refine ⟨_, rfl, p, C, dx, _, _, rfl, s1 _ _ ho, T.cl, T.nW, pF_w, _, rfl, q, C, dx', _, _, rfl, s1 _ _ ho', T.cl, T.nW, pF_w, lw, mw, ws, ws', _, _, rfl, s1 _ _ hL.water, s1 _ _ hM.water, hL.wq.mono fun a q f => f.same s1, hM.wq.mono fun a q f => f.same s1, by rw [List.length_map, List.length_map, hlen], by rw [List.length_map]; exact sm, fw fit1, fw fit2, fun H2 l2 z2 s2 f2 g2 fr2 => ?_⟩
    have s02 := s1.trans s2
    refine ⟨_, rfl, p, C, dx, _, _, rfl, s02 _ _ ho, T.cl, T.nC, pF_c, _, rfl, _, rfl, ?_⟩
    intro x dx2 nx nd ne
    refine make_prof (cells := Kqk1.mean cells dells) nx nd ne (by rw [mean_caps hlen]; exact s02 _ _ hL.caps) (s2 _ _ g1) g2 ?_ ?_ fun H' fp' s3 pr sub => ?_
    · rw [mean_rock]
      exact fr1.mono fun a q f => f.same s2
    · rw [mean_water]
      exact fr2
    · exact k H' x fp' (s02.trans s3) pr fun b hb => s02.free (sub b hb)
theorem scTn : FnScope ["self"] ["self"] (defScope sTurn) := ⟨rfl, rfl, rfl, by decide +kernel, rfl, by decide +kernel, by decide +kernel⟩
theorem ok_turn {f : Addr} {fd : FuncData} (F : Fun K "turned_round" "Profile.turned_round" sTurn f fd) (T : PTxt K mg C) (T2 : PTxt2 K mg)
    (M : MakOk CX0 P w K mg base 1 "Profile" C ["self", "rock_capacities", "rock_temperatures", "water_temperatures"] (spPInit K C)) : FnOk P w K mg base CX0 3 f fd ["self"] (spTurn C) := by
  refine F.ok scTn (fun vs H Q E h => ?_) (fun cdv A outer s H vs Q E hr h => ⟨_, pss_one (ps_ret (pe_k M hr (by decide) rfl pass0 (pa_cons (pe_listRev rfl rfl T.gL rfl T2.gV (pe_fld (pv 0) rfl)) (pa_cons (pe_listRev rfl rfl T.gL rfl T2.gV (pe_fld (pv 0) rfl)) (pa_cons (pe_listRev rfl rfl T.gL rfl T2.gV (pe_fld (pv 0) rfl)) pa_nil))))), ?_⟩)
  · obtain ⟨p, fp, cells, rfl, _⟩ := h
    rfl
  · obtain ⟨p, fp, cells, rfl, hP, k⟩ := h
    obtain ⟨lc, lr, lw, rs, ws, rfl, hL⟩ := id hP
    obtain ⟨dx, ho⟩ := hL.obj
    refine ⟨_, rfl, p, C, dx, _, _, rfl, ho, T.cl, T.nC, pF_c, lc, _, rfl, SqL.of hL.caps, fun n1 hn1 => ?_⟩
    have s1 : Same H (upd H n1 (.lst (capV cells).reverse)) := same_upd hn1
    have g1 : (upd H n1 (.lst (capV cells).reverse)) n1 = some (.lst (capV cells).reverse) := upd_same
    generalize upd H n1 (.lst (capV cells).reverse) = H1 at s1 g1 ⊢
    refine ⟨_, rfl, p, C, dx, _, _, rfl, s1 _ _ ho, T.cl, T.nR, pF_r, lr, _, rfl, SqL.of (s1 _ _ hL.rock), fun n2 hn2 => ?_⟩
    have s2 : Same H1 (upd H1 n2 (.lst rs.reverse)) := same_upd hn2
    have g2 : (upd H1 n2 (.lst rs.reverse)) n2 = some (.lst rs.reverse) := upd_same
    generalize upd H1 n2 (.lst rs.reverse) = H2 at s2 g2 ⊢
    have s02 := s1.trans s2
    refine ⟨_, rfl, p, C, dx, _, _, rfl, s02 _ _ ho, T.cl, T.nW, pF_w, lw, _, rfl, SqL.of (s02 _ _ hL.water), fun n3 hn3 => ?_⟩
    have s3 : Same H2 (upd H2 n3 (.lst ws.reverse)) := same_upd hn3
    have g3 : (upd H2 n3 (.lst ws.reverse)) n3 = some (.lst ws.reverse) := upd_same
    generalize upd H2 n3 (.lst ws.reverse) = H3 at s3 g3 ⊢
    have s03 := s02.trans s3
    intro x dx2 nx nd ne
    refine make_prof (cells := cells.reverse) nx nd ne ?_ (s3 _ _ (g2)) g3 ?_ ?_ fun H' fp' s4 pr sub => ?_
    · have e : capV cells.reverse = (capV cells).reverse := by
        unfold capV
        rw [List.map_reverse]
      rw [e]
      exact s3 _ _ (s2 _ _ g1)
    · rw [List.map_reverse]
      exact hL.rq.reverse.mono fun a q f => f.same s03
    · rw [List.map_reverse]
      exact hL.wq.reverse.mono fun a q f => f.same s03
    · exact k H' x fp' (s03.trans s4) pr fun b hb => s03.free (sub b hb)
end
end CF
namespace CF
open PySem PySem.Spec PyProof.Rows L2
open PySem.W (Codec)
abbrev sRHas : Stmt := inClass (top 33) 3
abbrev sRChkS : Stmt := inClass (top 33) 4
abbrev sRBal : Stmt := inClass (top 33) 15
abbrev sRHot : Stmt := inClass (top 33) 16
abbrev sRCold : Stmt := inClass (top 33) 17
abbrev sRBrk : Stmt := inClass (top 33) 18
abbrev sRSave : Stmt := inClass (top 33) 19
abbrev sRCmp : Stmt := inClass (top 33) 20
abbrev sRAvg : Stmt := inClass (top 33) 21
abbrev sRRev : Stmt := inClass (top 33) 22
abbrev sRExc : Stmt := inClass (top 33) 23
def spRHas (C CP : Addr) : Sp := fun vs H Q _ => ∃ r fa R, vs = [.ref r] ∧ Res C CP H r fa R ∧ Q (.bl R.saved.isSome) H
def spRChkS (C CP CN : Addr) : Sp := fun vs H Q E => ∃ r fa R, vs = [.ref r] ∧ Res C CP H r fa R ∧ (R.saved = none → E (.ref CN) none H) ∧ (R.saved ≠ none → Q .non H)
def spRBal (C CP : Addr) : Sp := fun vs H Q _ => ∃ r fa R, vs = [.ref r] ∧ Res C CP H r fa R ∧
  ∀ H' t a b, Same H H' → H' t = some (.tup [.int (R.producedCount : Int), .ref a, .ref b]) → FrA H' a R.injectedSum → FrA H' b R.producedSum → Q (.ref t) H'
def spRHot (C CP : Addr) : Sp := fun vs H Q _ => ∃ r fa R, vs = [.ref r] ∧ Res C CP H r fa R ∧ CellsFit R.cells ∧ R.cells ≠ [] ∧ R.cells.length ≤ 1000 ∧
  ∀ H' a m, Same H H' → FrA H' a m → m ∈ temps R.cells → (∀ q ∈ temps R.cells, q ≤ m) → Q (.ref a) H'
def spRCold (C CP : Addr) : Sp := fun vs H Q _ => ∃ r fa R, vs = [.ref r] ∧ Res C CP H r fa R ∧ CellsFit R.cells ∧ R.cells ≠ [] ∧ R.cells.length ≤ 1000 ∧
  ∀ H' a m, Same H H' → FrA H' a m → m ∈ temps R.cells → (∀ q ∈ temps R.cells, m ≤ q) → Q (.ref a) H'
def colder (t : Nat) (q : Rat) : Bool := decide (q < (t : Rat))
def spRBrk (C CP CB : Addr) : Sp := fun vs H Q E => ∃ r fa R, ∃ t : Nat, vs = [.ref r, .int (t : Int)] ∧ Res C CP H r fa R ∧ RunFit R.injection R.cells 20 ∧ t < 2 ^ 40 ∧
  (∀ k, (outL R.injection R.cells 20).findIdx? (colder t) = some k → ∀ H', Same H H' → Q (.int (k : Int)) H') ∧
  ((outL R.injection R.cells 20).findIdx? (colder t) = none → ∀ H', Same H H' → E (.ref CB) none H')
def spRSave (C CP : Addr) : Sp := fun vs H Q _ => ∃ r fa R, vs = [.ref r] ∧ Res C CP H r fa R ∧ ∀ H' fa', Keep fa H H' → Res C CP H' r fa' { R with saved := some R.cells } → (∀ x ∈ fa', x ∈ fa ∨ H x = none) → Q .non H'
def spRCmp (C CP CN : Addr) : Sp := fun vs H Q E => ∃ r fa R, vs = [.ref r] ∧ Res C CP H r fa R ∧ (R.saved = none → E (.ref CN) none H) ∧
  (∀ l, R.saved = some l → CellsFit R.cells ∧ CellsFit l ∧ R.cells.length ≤ 1000 ∧ l.length ≤ 1000 ∧
    ∀ H' t, Same H H' → H' t = some (.tup [.bl (Kqk1.isNowhereColder R.cells l), .bl (Kqk1.isNowhereColder l R.cells)]) → Q (.ref t) H')
def spRAvg (C CP CN CF CD : Addr) : Sp := fun vs H Q E => ∃ r fa R, vs = [.ref r] ∧ Res C CP H r fa R ∧ (R.saved = none → E (.ref CN) none H) ∧
  (∀ l, R.saved = some l → CellsFit R.cells ∧ CellsFit l ∧ R.cells.length ≤ 1000 ∧ (capsOf R.cells ≠ capsOf l → E (.ref CF) none H) ∧
    (capsOf R.cells = capsOf l → ((temps (Kqk1.mean R.cells l)).all small = true → ∀ H' fa', Keep fa H H' → Res C CP H' r fa' { R with cells := Kqk1.mean R.cells l } → (∀ x ∈ fa', x ∈ fa ∨ H x = none) → Q .non H') ∧
      ((temps (Kqk1.mean R.cells l)).all small = false → ∀ H', Same H H' → E (.ref CD) none H')))
def spRRev (C CP : Addr) : Sp := fun vs H Q _ => ∃ r fa R, vs = [.ref r] ∧ Res C CP H r fa R ∧ ∀ H' fa', Keep fa H H' → Res C CP H' r fa' { R with cells := R.cells.reverse } → (∀ x ∈ fa', x ∈ fa ∨ H x = none) → Q .non H'
def spRExc (C CP : Addr) : Sp := fun vs H Q _ => ∃ r fa R, ∃ t : Nat, vs = [.ref r, .int (t : Int)] ∧ Res C CP H r fa R ∧ CellsFit R.cells ∧ HeatFit R.cells ∧ t < 2 ^ 40 ∧ Kqk1.totalCapacity R.cells < 2 ^ 20 ∧ Fit 4400 (Kqk1.totalHeat R.cells) ∧ Fit 4400 ((t : Rat) * ((Kqk1.totalCapacity R.cells : Nat) : Rat)) ∧
  ∀ H' a, Same H H' → FrA H' a (Kqk1.totalHeat R.cells - (t : Rat) * ((Kqk1.totalCapacity R.cells : Nat) : Rat)) → Q (.ref a) H'
theorem nt_one {H : Hp} {r : Addr} {u : HO} (h : H r = some u) (t : isTup u = false) : ∀ b ∈ [r], ∀ o, H b = some o → isTup o = false := by
  intro x hx o e
  have z : x = r := by simpa using hx
  rw [z, h] at e
  cases e
  exact t
theorem keep_cons {H H' : Hp} {r : Addr} {fp : List Addr} (k : Keep [r] H H') : Keep (r :: fp) H H' := k.mono fun x hx => by
  have : x = r := by simpa using hx
  rw [this]
  simp
section
variable {P : Program} {w : World} {K : PySem.W.Frag} {mg : Str → Option Value} {base : Heap} {C CP CO CC CD CN CF CB : Addr}
theorem scHs : FnScope ["self"] ["self"] (defScope sRHas) := ⟨rfl, rfl, rfl, by decide +kernel, rfl, by decide +kernel, by decide +kernel⟩
theorem ok_rhas {f : Addr} {fd : FuncData} (F : Fun K "has_saved" "Reservoir.has_saved" sRHas f fd) (T : RTxt K mg C) : FnOk P w K mg base CX0 1 f fd ["self"] (spRHas C CP) := by
  refine F.ok scHs (fun vs H Q E h => ?_) (fun cdv A outer s H vs Q E hr h => ⟨_, pss_one (ps_ret (pe_cmp (pc_notN (pe_fld (pv 0) rfl)) rfl)), ?_⟩)
  · obtain ⟨r, fa, R, rfl, _⟩ := h
    rfl
  · obtain ⟨r, fa, R, rfl, ⟨p, i, a, b, sv, fp, fs, rfl, hL⟩, k⟩ := h
    obtain ⟨dx, ho⟩ := hL.obj
    refine ⟨_, rfl, r, C, dx, _, _, rfl, ho, T.cl, T.nS, rF_s, ?_⟩
    have hs := hL.sav
    cases e : R.saved with
    | none =>
      rw [e] at hs k
      obtain ⟨rfl, _⟩ := hs
      exact k
    | some l =>
      rw [e] at hs k
      obtain ⟨s, rfl, _⟩ := hs
      exact k
theorem scCs : FnScope ["self"] ["self"] (defScope sRChkS) := ⟨rfl, rfl, rfl, by decide +kernel, rfl, by decide +kernel, by decide +kernel⟩
theorem ok_rchks {f : Addr} {fd : FuncData} (F : Fun K "check_saved" "Reservoir.check_saved" sRChkS f fd) (T : RTxt K mg C) (TN : ExcTxt K mg "NoSavedProfile" CN) (G : MetOk CX0 P w K mg base 1 C "has_saved" ["self"] (spRHas C CP)) : FnOk P w K mg base (L2.CX P w) 2 f fd ["self"] (spRChkS C CP CN) := by
  refine F.okX scCs (fun vs H Q E h => ?_) (fun cdv A outer s H vs Q E hr h => ⟨_, pss_one (ps_if (pt_not (pt_val (pe_m0' G T.cl hr (by decide) pass0 (pv 0))))
      (pss_one (ps_raise rfl (takes_of rfl rfl rfl rfl) (TN.pmk (by exact rfl)))) pss_nil), ?_⟩)
  · obtain ⟨r, fa, R, rfl, _⟩ := h
    rfl
  · obtain ⟨r, fa, R, rfl, hR, he, hq⟩ := h
    obtain ⟨p, i, a, b, sv, fp, fs, rfl, hL⟩ := id hR
    obtain ⟨dx, ho⟩ := hL.obj
    refine ⟨_, rfl, r, dx, _, rfl, ho, rF_none (by decide +kernel), r, _, R, rfl, hR, _, rfl, ifB (fun c => ?_) (fun c => ?_)⟩
    · refine he ?_
      cases e : R.saved with
      | none => rfl
      | some l => rw [e] at c; cases c
    · refine hq fun e => ?_
      rw [e] at c
      cases c
theorem scBa : FnScope ["self"] ["self"] (defScope sRBal) := ⟨rfl, rfl, rfl, by decide +kernel, rfl, by decide +kernel, by decide +kernel⟩
theorem ok_rbal {f : Addr} {fd : FuncData} (F : Fun K "balance" "Reservoir.balance" sRBal f fd) (T : RTxt K mg C) : FnOk P w K mg base CX0 1 f fd ["self"] (spRBal C CP) := by
  refine F.ok scBa (fun vs H Q E h => ?_) (fun cdv A outer s H vs Q E hr h => ⟨_, pss_one (ps_ret (pe_tup (pa_cons (pe_fld (pv 0) rfl) (pa_cons (pe_fld (pv 0) rfl) (pa_cons (pe_fld (pv 0) rfl) pa_nil))))), ?_⟩)
  · obtain ⟨r, fa, R, rfl, _⟩ := h
    rfl
  · obtain ⟨r, fa, R, rfl, ⟨p, i, a, b, sv, fp, fs, rfl, hL⟩, k⟩ := h
    obtain ⟨dx, ho⟩ := hL.obj
    refine ⟨_, rfl, r, C, dx, _, _, rfl, ho, T.cl, T.nN, rF_n, _, rfl, r, C, dx, _, _, rfl, ho, T.cl, T.nA, rF_a, _, rfl, r, C, dx, _, _, rfl, ho, T.cl, T.nB, rF_b, by show 3 ≤ sizeLine; decide, fun t ht => ?_⟩
    have s1 := same_upd (o := .tup [.int (R.producedCount : Int), .ref a, .ref b]) ht
    exact k _ t a b s1 upd_same (hL.si.same s1) (hL.sp.same s1)
theorem scHo : FnScope ["self"] ["self"] (defScope sRHot) := ⟨rfl, rfl, rfl, by decide +kernel, rfl, by decide +kernel, by decide +kernel⟩
theorem temps_ne {cells : List Kqk1.Cell} (h : cells ≠ []) : temps cells ≠ [] := fun e => by
  have := congrArg List.length e
  rw [temps_len] at this
  have h1 : 0 < cells.length := List.length_pos_iff.mpr h
  rw [List.length_nil] at this
  omega
theorem ok_rhot {f : Addr} {fd : FuncData} (F : Fun K "hottest" "Reservoir.hottest" sRHot f fd) (T : RTxt K mg C) (TP : PTxt K mg CP) (GM : MetOk CX0 P w K mg base 1 CP "temperatures" ["self"] (spTemps CP)) (GG : DefOk CX0 P w K mg base 2 "greatest" ["fractions"] spGreat) : FnOk P w K mg base CX0 3 f fd ["self"] (spRHot C CP) := by
  refine F.ok scHo (fun vs H Q E h => ?_) (fun cdv A outer s H vs Q E hr h => ⟨_, pss_one (ps_ret (pe_d GG hr (by decide) rfl pass0 (pa_cons (pe_m0' GM TP.cl hr (by decide) pass0 (pe_fld (pv 0) rfl)) pa_nil))), ?_⟩)
  · obtain ⟨r, fa, R, rfl, _⟩ := h
    rfl
  · obtain ⟨r, fa, R, rfl, ⟨p, i, a, b, sv, fp, fs, rfl, hL⟩, cf, hne, sm, k⟩ := h
    obtain ⟨dx, ho⟩ := hL.obj
    obtain ⟨dp, lc, lr, lw, op⟩ := prof_obj hL.prof
    refine ⟨_, rfl, r, C, dx, _, _, rfl, ho, T.cl, T.nP, rF_p, p, dp, _, rfl, op, pF_none (by decide +kernel), p, fp, R.cells, rfl, hL.prof, sm, fun H1 l ws s1 hl h1 fr => ?_⟩
    exact ⟨l, ws, temps R.cells, rfl, h1, fr, temps_ne hne, fit_temps cf, fun a m fa hm hle => k H1 a m s1 fa hm hle⟩
theorem scCd : FnScope ["self"] ["self"] (defScope sRCold) := ⟨rfl, rfl, rfl, by decide +kernel, rfl, by decide +kernel, by decide +kernel⟩
theorem ok_rcold {f : Addr} {fd : FuncData} (F : Fun K "coldest" "Reservoir.coldest" sRCold f fd) (T : RTxt K mg C) (TP : PTxt K mg CP) (GM : MetOk CX0 P w K mg base 1 CP "temperatures" ["self"] (spTemps CP)) (GG : DefOk CX0 P w K mg base 2 "smallest" ["fractions"] spSmall) : FnOk P w K mg base CX0 3 f fd ["self"] (spRCold C CP) := by
  refine F.ok scCd (fun vs H Q E h => ?_) (fun cdv A outer s H vs Q E hr h => ⟨_, pss_one (ps_ret (pe_d GG hr (by decide) rfl pass0 (pa_cons (pe_m0' GM TP.cl hr (by decide) pass0 (pe_fld (pv 0) rfl)) pa_nil))), ?_⟩)
  · obtain ⟨r, fa, R, rfl, _⟩ := h
    rfl
  · obtain ⟨r, fa, R, rfl, ⟨p, i, a, b, sv, fp, fs, rfl, hL⟩, cf, hne, sm, k⟩ := h
    obtain ⟨dx, ho⟩ := hL.obj
    obtain ⟨dp, lc, lr, lw, op⟩ := prof_obj hL.prof
    refine ⟨_, rfl, r, C, dx, _, _, rfl, ho, T.cl, T.nP, rF_p, p, dp, _, rfl, op, pF_none (by decide +kernel), p, fp, R.cells, rfl, hL.prof, sm, fun H1 l ws s1 hl h1 fr => ?_⟩
    exact ⟨l, ws, temps R.cells, rfl, h1, fr, temps_ne hne, fit_temps cf, fun a m fa hm hle => k H1 a m s1 fa hm hle⟩
theorem scBk : FnScope ["self", "temperature", "place", "parcel"] ["self", "temperature"] (defScope sRBrk) := ⟨rfl, rfl, rfl, by decide +kernel, rfl, by decide +kernel, by decide +kernel⟩
theorem fit_nat {t : Nat} (h : t < 2 ^ 40) : Fit 4400 ((t : Rat)) := by
  refine ⟨?_, ?_⟩
  · show ((t : Int)).natAbs < _
    exact Nat.lt_of_lt_of_le (by omega : ((t : Int)).natAbs < 2 ^ 40) (Nat.pow_le_pow_right (by decide) (by decide))
  · show 1 < _
    exact Nat.one_lt_two_pow (by decide)
theorem outL_fit {inj : Rat} {cells : List Kqk1.Cell} {n : Nat} (h : RunFit inj cells n) : ∀ q ∈ outL inj cells n, Fit 4400 q := by
  intro q hq
  unfold outL at hq
  obtain ⟨j, hj, rfl⟩ := List.mem_map.mp hq
  exact h.out j (by have := List.mem_range.mp hj; omega)
theorem ok_rbrk {f : Addr} {fd : FuncData} (F : Fun K "breakthrough" "Reservoir.breakthrough" sRBrk f fd) (T : RTxt K mg C) (gE : mg "enumerate" = none) (TB : ExcTxt K mg "NoBreakthrough" CB) (GF : MetOk (L2.CX P w) P w K mg base 6 C "forecast" ["self", "count"] (spRFore C CP CO))
    (GL : DefOk CX0 P w K mg base 1 "is_less" ["first", "second"] spLess) (GW : DefOk CX0 P w K mg base 1 "whole" ["number"] spWhole) : FnOk P w K mg base (L2.CX P w) 7 f fd ["self", "temperature"] (spRBrk C CP CB) := by
  refine F.okX scBk (fun vs H Q E h => ?_) (fun cdv A outer s H vs Q E hr h => ⟨_, pss_cons (ps_for (passes_of rfl) rfl (pi_enum (by rfl) gE (pa_cons (pe_m GF T.cl hr (by decide) (passE (takes_of rfl rfl rfl rfl)) (pv 0) (pa_cons (pe_k1 T.m5 rfl) pa_nil)) pa_nil))
        (pg_tup rfl (pgs_cons (pg_name (i := 2) scBk.nd rfl (Or.inl rfl)) (pgs_cons (pg_name (i := 3) scBk.nd rfl (Or.inl rfl)) pgs_nil)))
        (pss_one (ps_if (pt_val (pe_d GL hr (by decide) rfl pass0 (pa_cons (pv 3) (pa_cons (pe_d GW hr (by decide) rfl pass0 (pa_cons (pv 1) pa_nil)) pa_nil)))) (pss_one (ps_ret (pv 2))) pss_nil)))
      (pss_one (ps_raise rfl (takes_of rfl rfl rfl rfl) (TB.pmk (by exact rfl)))), ?_⟩)
  · obtain ⟨r, fa, R, t, rfl, _⟩ := h
    rfl
  · obtain ⟨r, fa, R, t, rfl, hR, rf, ht, kq, ke⟩ := h
    obtain ⟨p, i, a, b, sv, fp, fs, rfl, hL⟩ := id hR
    obtain ⟨dx, ho⟩ := hL.obj
    refine ⟨_, rfl, r, dx, _, rfl, ho, rF_none (by decide +kernel), r, _, R, 20, rfl, hR, fun c => by omega, fun _ => ⟨rf, fun H1 l ws s1 hl h1 fr1 => ?_⟩⟩
    have lw := fr1.length
    have fitL := outL_fit rf
    generalize outL R.injection R.cells 20 = L at fr1 lw kq ke fitL ⊢
    refine ⟨l, ws, rfl, SqL.of h1, for_it (walk_enum (K := K) (a := l) (xs := ws)) (fun j σ H' => ∃ v2 v3, σ = [some (.ref r), some (.int (t : Int)), v2, v3] ∧ Same H1 H' ∧ ∀ j' x, j' < j → L[j']? = some x → colder t x = false)
      ⟨none, none, rfl, Same.refl _, fun j' _ h => absurd h (Nat.not_lt_zero j')⟩ (fun _ σ H' _ ⟨_, _, _, s, _⟩ => SqL.of (s _ _ h1)) ?_ ?_⟩
    · rintro j x σ H2 H3 hj ⟨v2, v3, rfl, s2, hno⟩ ⟨Tt, x1, y1, rfl, hT, rfl, g1, g2⟩
      cases g1
      have hj2 : j < L.length := by omega
      have q1 := List.getElem?_eq_getElem hj2
      obtain ⟨a1, rfl, f1⟩ := fr1.get g2 q1
      have sT : Same H2 (upd H2 Tt (.tup [.int ((j : Nat) : Int), .ref a1])) := same_upd hT
      have s3 := s2.trans sT
      refine ⟨Tt, _, rfl, SqT.of upd_same, rfl, _, _, rfl, _, _, rfl, rfl, _, rfl, _, rfl, (t : Int), rfl, fun H4 w1 s4 fw => ?_⟩
      refine ⟨a1, w1, _, _, rfl, (f1.same s3).same s4, fw, fitL _ (List.getElem_mem hj2), fit_nat ht, _, rfl, ifB (fun c => ?_) (fun c => ?_)⟩
      · refine ⟨_, rfl, kq j ?_ H4 ((s1.trans s3).trans s4)⟩
        rw [List.findIdx?_eq_some_iff_getElem]
        refine ⟨hj2, c, fun j' hj' z => ?_⟩
        have e := hno j' _ hj' (List.getElem?_eq_getElem (by omega))
        rw [z] at e
        cases e
      · refine ⟨_, _, rfl, s3.trans s4, fun j' x hj' hx => ?_⟩
        by_cases e : j' = j
        · subst e
          rw [q1] at hx
          cases hx
          exact c
        · exact hno j' x (by omega) hx
    · rintro σ H2 ⟨v2, v3, rfl, s2, hno⟩
      refine ke ?_ H2 (s1.trans s2)
      rw [List.findIdx?_eq_none_iff]
      intro x hx
      obtain ⟨j, hj, e⟩ := List.getElem_of_mem hx
      exact hno j x (by omega) (by rw [List.getElem?_eq_getElem hj, e])
theorem scSv : FnScope ["self"] ["self"] (defScope sRSave) := ⟨rfl, rfl, rfl, by decide +kernel, rfl, by decide +kernel, by decide +kernel⟩
theorem ok_rsave {f : Addr} {fd : FuncData} (F : Fun K "save_profile" "Reservoir.save_profile" sRSave f fd) (T : RTxt K mg C) (TP : PTxt K mg CP) (GT : MetOk CX0 P w K mg base 3 CP "twin" ["self"] (spTwin CP)) : FnOk P w K mg base CX0 4 f fd ["self"] (spRSave C CP) := by
  refine F.ok scSv (fun vs H Q E h => ?_) (fun cdv A outer s H vs Q E hr h => ⟨_, pss_one (ps_fld (pv 0) (pe_m0' GT TP.cl hr (by decide) pass0 (pe_fld (pv 0) rfl)) rfl), ?_⟩)
  · obtain ⟨r, fa, R, rfl, _⟩ := h
    rfl
  · obtain ⟨r, fa, R, rfl, hR, k⟩ := h
    obtain ⟨p, i, a, b, sv, fp, fs, rfl, hL⟩ := id hR
    obtain ⟨dx, ob⟩ := hL.obj
    obtain ⟨dp, lc, lr, lw, op⟩ := prof_obj hL.prof
    refine ⟨_, rfl, r, C, dx, _, _, rfl, ob, T.cl, T.nP, rF_p, p, dp, _, rfl, op, pF_none (by decide +kernel), p, fp, R.cells, rfl, hL.prof, fun H1 p' fp' s1 pr1 f1 => ?_⟩
    refine ⟨_, rfl, r, C, dx, _, rfl, s1 _ _ ob, T.cl, T.nS, rF_len, ?_⟩
    rw [rF_puts]
    have k2 : Keep [r] H1 (upd H1 r (.ins C dx (rF p i a b (R.producedCount : Int) (.ref p')))) := Keep.put (by simp)
    have k12 : Keep [r] H (upd H1 r (.ins C dx (rF p i a b (R.producedCount : Int) (.ref p')))) := (Keep.of_same s1).trans k2
    have nt := nt_one ob rfl
    have nt1 := nt_one (s1 _ _ ob) rfl
    have rn : r ∉ fp' := fun z => by
      rw [f1 r z] at ob
      cases ob
    have ap : Apart fp fp' := fun x hx z => by
      obtain ⟨o, e, _⟩ := hL.prof.noTup x hx
      rw [f1 x z] at e
      cases e
    have hL' : ResL C CP (upd H1 r (.ins C dx (rF p i a b (R.producedCount : Int) (.ref p')))) r p i a b (.ref p') fp fp' { R with saved := some R.cells } :=
      ⟨⟨dx, upd_same⟩, hL.prof.keep k12 nt (apart_r hL.rp), hL.inj.keep k12 nt, hL.si.keep k12 nt, hL.sp.keep k12 nt, ⟨p', rfl, pr1.keep k2 nt1 (apart_r rn)⟩, ap, hL.rp, rn⟩
    refine k _ (r :: (fp ++ fp')) (k12.mono fun x hx => by have : x = r := by simpa using hx
                                                           simp [this]) hL'.res fun x hx => ?_
    rcases List.mem_cons.mp hx with rfl | hx
    · exact .inl (by simp)
    · rcases List.mem_append.mp hx with hx | hx
      · exact .inl (by simp [hx])
      · exact .inr (f1 x hx)
theorem scCm : FnScope ["self", "current", "saved"] ["self"] (defScope sRCmp) := ⟨rfl, rfl, rfl, by decide +kernel, rfl, by decide +kernel, by decide +kernel⟩
theorem ok_rcmp {f : Addr} {fd : FuncData} (F : Fun K "compare_with_saved" "Reservoir.compare_with_saved" sRCmp f fd) (T : RTxt K mg C) (TP : PTxt K mg CP) (GK : MetOk (L2.CX P w) P w K mg base 2 C "check_saved" ["self"] (spRChkS C CP CN)) (GN : MetOk CX0 P w K mg base 2 CP "nowhere_colder" ["self", "other"] (spNow CP)) : FnOk P w K mg base (L2.CX P w) 3 f fd ["self"] (spRCmp C CP CN) := by
  refine F.okX scCm (fun vs H Q E h => ?_) (fun cdv A outer s H vs Q E hr h => ⟨_, pss_cons (ps_expr (pe_m0' GK T.cl hr (by decide) (passE (takes_of rfl rfl rfl rfl)) (pv 0)))
      (pss_cons (ps_set (i := 1) scCm.nd rfl (Or.inl rfl) (pe_fld (pv 0) rfl))
      (pss_cons (ps_set (i := 2) scCm.nd rfl (Or.inl rfl) (pe_fld (pv 0) rfl))
      (pss_one (ps_ret (pe_tup (pa_cons (pe_m GN TP.cl hr (by decide) pass0 (pv 1) (pa_cons (pv 2) pa_nil)) (pa_cons (pe_m GN TP.cl hr (by decide) pass0 (pv 2) (pa_cons (pv 1) pa_nil)) pa_nil))))))), ?_⟩)
  · obtain ⟨r, fa, R, rfl, _⟩ := h
    rfl
  · obtain ⟨r, fa, R, rfl, hR, he, k⟩ := h
    obtain ⟨p, i, a, b, sv, fp, fs, rfl, hL⟩ := id hR
    obtain ⟨dx, ob⟩ := hL.obj
    obtain ⟨dp, lc, lr, lw, op⟩ := prof_obj hL.prof
    refine ⟨_, rfl, r, dx, _, rfl, ob, rF_none (by decide +kernel), r, _, R, rfl, hR, he, fun hn => ?_⟩
    cases es : R.saved with
    | none => exact absurd es hn
    | some l =>
      obtain ⟨cf, cl, sm, sml, k⟩ := k l es
      have hs := hL.sav
      rw [es] at hs
      obtain ⟨s', rfl, hS⟩ := hs
      obtain ⟨ds, mc, mr, mw, os⟩ := prof_obj hS
      refine ⟨_, rfl, r, C, dx, _, _, rfl, ob, T.cl, T.nP, rF_p, _, rfl, r, C, dx, _, _, rfl, ob, T.cl, T.nS, rF_s, ?_⟩
      refine ⟨_, rfl, p, dp, _, rfl, op, pF_none (by decide +kernel), _, rfl, p, fp, R.cells, s', fs, l, rfl, hL.prof, hS, cf, cl, sm, sml, fun H1 s1 => ?_⟩
      refine ⟨_, rfl, s', ds, _, rfl, s1 _ _ os, pF_none (by decide +kernel), _, rfl, s', fs, l, p, fp, R.cells, rfl, hS.same s1, hL.prof.same s1, cl, cf, sml, sm, fun H2 s2 => ?_⟩
      refine ⟨by show 2 ≤ sizeLine; decide, fun t ht => ?_⟩
      have s3 := same_upd (o := .tup [.bl (Kqk1.isNowhereColder R.cells l), .bl (Kqk1.isNowhereColder l R.cells)]) ht
      exact k _ t ((s1.trans s2).trans s3) upd_same
theorem scAv : FnScope ["self", "halfway"] ["self"] (defScope sRAvg) := ⟨rfl, rfl, rfl, by decide +kernel, rfl, by decide +kernel, by decide +kernel⟩
theorem ok_ravg {f : Addr} {fd : FuncData} (F : Fun K "average_with_saved" "Reservoir.average_with_saved" sRAvg f fd) (T : RTxt K mg C) (TP : PTxt K mg CP) (TF : ExcTxt K mg "DifferentCells" CF) (GK : MetOk (L2.CX P w) P w K mg base 2 C "check_saved" ["self"] (spRChkS C CP CN)) (GS : MetOk CX0 P w K mg base 1 CP "same_cells" ["self", "other"] (spSame CP))
    (GW : MetOk CX0 P w K mg base 6 CP "mean_with" ["self", "other"] (spMeanW CP)) (GM : MetOk CX0 P w K mg base 1 CP "temperatures" ["self"] (spTemps CP)) (GD : DefOk (L2.CX P w) P w K mg base 1 "check_denominators" ["fractions"] (spDen CD)) : FnOk P w K mg base (L2.CX P w) 7 f fd ["self"] (spRAvg C CP CN CF CD) := by
  refine F.okX scAv (fun vs H Q E h => ?_) (fun cdv A outer s H vs Q E hr h => ⟨_, pss_cons (ps_expr (pe_m0' GK T.cl hr (by decide) (passE (takes_of rfl rfl rfl rfl)) (pv 0)))
      (pss_cons (ps_if (pt_not (pt_val (pe_m GS TP.cl hr (by decide) pass0 (pe_fld (pv 0) rfl) (pa_cons (pe_fld (pv 0) rfl) pa_nil)))) (pss_one (ps_raise rfl (takes_of rfl rfl rfl rfl) (TF.pmk (by exact rfl)))) pss_nil)
      (pss_cons (ps_set (i := 1) scAv.nd rfl (Or.inl rfl) (pe_m GW TP.cl hr (by decide) pass0 (pe_fld (pv 0) rfl) (pa_cons (pe_fld (pv 0) rfl) pa_nil)))
      (pss_cons (ps_expr (pe_d GD hr (by decide) rfl (passE (takes_of rfl rfl rfl rfl)) (pa_cons (pe_m0' GM TP.cl hr (by decide) pass0 (pv 1)) pa_nil)))
      (pss_one (ps_fld (pv 0) (pv 1) rfl))))), ?_⟩)
  · obtain ⟨r, fa, R, rfl, _⟩ := h
    rfl
  · obtain ⟨r, fa, R, rfl, hR, he, k⟩ := h
    obtain ⟨p, i, a, b, sv, fp, fs, rfl, hL⟩ := id hR
    obtain ⟨dx, ob⟩ := hL.obj
    obtain ⟨dp, lc, lr, lw, op⟩ := prof_obj hL.prof
    refine ⟨_, rfl, r, dx, _, rfl, ob, rF_none (by decide +kernel), r, _, R, rfl, hR, he, fun hn => ?_⟩
    cases es : R.saved with
    | none => exact absurd es hn
    | some l =>
      obtain ⟨cf, cl, sm, kf, k⟩ := k l es
      have hs := hL.sav
      rw [es] at hs
      obtain ⟨s', rfl, hS⟩ := hs
      obtain ⟨ds, mc, mr, mw, os⟩ := prof_obj hS
      refine ⟨_, rfl, r, C, dx, _, _, rfl, ob, T.cl, T.nP, rF_p, p, dp, _, rfl, op, pF_none (by decide +kernel), _, rfl, r, C, dx, _, _, rfl, ob, T.cl, T.nS, rF_s, p, fp, R.cells, s', fs, l, rfl, hL.prof, hS, _, rfl, ifB (fun c => ?_) (fun c => ?_)⟩
      · have c1 : decide (capsOf R.cells = capsOf l) = false := by simpa using c
        exact kf (of_decide_eq_false c1)
      · have c1 : decide (capsOf R.cells = capsOf l) = true := by simpa using c
        have c2 := of_decide_eq_true c1
        have hl := caps_len c2
        obtain ⟨kq, ke⟩ := k c2
        refine ⟨_, rfl, r, C, dx, _, _, rfl, ob, T.cl, T.nP, rF_p, p, dp, _, rfl, op, pF_none (by decide +kernel), _, rfl, r, C, dx, _, _, rfl, ob, T.cl, T.nS, rF_s, p, fp, R.cells, s', fs, l, rfl, hL.prof, hS, cf, cl, hl, sm, fun H2 p' fp2 s2 pr2 f2 => ?_⟩
        obtain ⟨dp2, lc2, lr2, lw2, op2⟩ := prof_obj pr2
        have lm : (Kqk1.mean R.cells l).length ≤ 1000 := by
          unfold Kqk1.mean
          rw [List.length_map, List.length_zip]
          omega
        refine ⟨_, rfl, p', dp2, _, rfl, op2, pF_none (by decide +kernel), p', fp2, _, rfl, pr2, lm, fun H3 l3 vs' s3 hl3 h3 fr3 => ?_⟩
        have s03 := s2.trans s3
        refine ⟨l3, vs', _, rfl, h3, fr3, fun c => ?_, fun c => ke c H3 s03⟩
        refine ⟨_, rfl, _, rfl, r, C, dx, _, rfl, s03 _ _ ob, T.cl, T.nP, rF_len, ?_⟩
        rw [rF_putp]
        have k4 : Keep [r] H3 (upd H3 r (.ins C dx (rF p' i a b (R.producedCount : Int) (.ref s')))) := Keep.put (by simp)
        have k04 : Keep [r] H (upd H3 r (.ins C dx (rF p' i a b (R.producedCount : Int) (.ref s')))) := (Keep.of_same s03).trans k4
        have k05 : Keep (r :: fp) H (upd H3 r (.ins C dx (rF p' i a b (R.producedCount : Int) (.ref s')))) := keep_cons k04
        have nt := nt_one ob rfl
        have nt3 := nt_one (s03 _ _ ob) rfl
        have rn : r ∉ fp2 := fun z => by
          rw [f2 r z] at ob
          cases ob
        have hL' : ResL C CP (upd H3 r (.ins C dx (rF p' i a b (R.producedCount : Int) (.ref s')))) r p' i a b (.ref s') fp2 fs { R with cells := Kqk1.mean R.cells l } :=
          hL.build k05 ⟨dx, upd_same⟩ ((pr2.same s3).keep k4 nt3 (apart_r rn)) (fun x hx => .inr (f2 x hx)) (hL.inj.keep k04 nt) (hL.si.keep k04 nt) (hL.sp.keep k04 nt) rfl
        exact kq c _ _ k05.fa hL'.res (subFa fun x hx => .inr (f2 x hx))
theorem scRv : FnScope ["self"] ["self"] (defScope sRRev) := ⟨rfl, rfl, rfl, by decide +kernel, rfl, by decide +kernel, by decide +kernel⟩
theorem ok_rrev {f : Addr} {fd : FuncData} (F : Fun K "reverse" "Reservoir.reverse" sRRev f fd) (T : RTxt K mg C) (TP : PTxt K mg CP) (GT : MetOk CX0 P w K mg base 3 CP "turned_round" ["self"] (spTurn CP)) : FnOk P w K mg base CX0 4 f fd ["self"] (spRRev C CP) := by
  refine F.ok scRv (fun vs H Q E h => ?_) (fun cdv A outer s H vs Q E hr h => ⟨_, pss_one (ps_fld (pv 0) (pe_m0' GT TP.cl hr (by decide) pass0 (pe_fld (pv 0) rfl)) rfl), ?_⟩)
  · obtain ⟨r, fa, R, rfl, _⟩ := h
    rfl
  · obtain ⟨r, fa, R, rfl, hR, k⟩ := h
    obtain ⟨p, i, a, b, sv, fp, fs, rfl, hL⟩ := id hR
    obtain ⟨dx, ob⟩ := hL.obj
    obtain ⟨dp, lc, lr, lw, op⟩ := prof_obj hL.prof
    refine ⟨_, rfl, r, C, dx, _, _, rfl, ob, T.cl, T.nP, rF_p, p, dp, _, rfl, op, pF_none (by decide +kernel), p, fp, R.cells, rfl, hL.prof, fun H1 p' fp' s1 pr1 f1 => ?_⟩
    refine ⟨_, rfl, r, C, dx, _, rfl, s1 _ _ ob, T.cl, T.nP, rF_len, ?_⟩
    rw [rF_putp]
    have k2 : Keep [r] H1 (upd H1 r (.ins C dx (rF p' i a b (R.producedCount : Int) sv))) := Keep.put (by simp)
    have k12 : Keep [r] H (upd H1 r (.ins C dx (rF p' i a b (R.producedCount : Int) sv))) := (Keep.of_same s1).trans k2
    have k13 : Keep (r :: fp) H (upd H1 r (.ins C dx (rF p' i a b (R.producedCount : Int) sv))) := keep_cons k12
    have nt := nt_one ob rfl
    have nt1 := nt_one (s1 _ _ ob) rfl
    have rn : r ∉ fp' := fun z => by
      rw [f1 r z] at ob
      cases ob
    have hL' : ResL C CP (upd H1 r (.ins C dx (rF p' i a b (R.producedCount : Int) sv))) r p' i a b sv fp' fs { R with cells := R.cells.reverse } :=
      hL.build k13 ⟨dx, upd_same⟩ (pr1.keep k2 nt1 (apart_r rn)) (fun x hx => .inr (f1 x hx)) (hL.inj.keep k12 nt) (hL.si.keep k12 nt) (hL.sp.keep k12 nt) rfl
    exact k _ _ k13.fa hL'.res (subFa fun x hx => .inr (f1 x hx))
theorem scEx : FnScope ["self", "temperature"] ["self", "temperature"] (defScope sRExc) := ⟨rfl, rfl, rfl, by decide +kernel, rfl, by decide +kernel, by decide +kernel⟩
theorem ok_rexc {f : Addr} {fd : FuncData} (F : Fun K "excess_heat" "Reservoir.excess_heat" sRExc f fd) (T : RTxt K mg C) (TP : PTxt K mg CP) (GH : MetOk CX0 P w K mg base 6 C "total_heat" ["self"] (spRHeat C CP)) (GU : MetOk CX0 P w K mg base 2 CP "uniform_heat" ["self", "temperature"] (spUni CP))
    (GT : DefOk CX0 P w K mg base 3 "add_times" ["first", "factor", "second"] spAddT) : FnOk P w K mg base CX0 7 f fd ["self", "temperature"] (spRExc C CP) := by
  refine F.ok scEx (fun vs H Q E h => ?_) (fun cdv A outer s H vs Q E hr h => ⟨_, pss_one (ps_ret (pe_d GT hr (by decide) rfl pass0 (pa_cons (pe_m0' GH T.cl hr (by decide) pass0 (pv 0)) (pa_cons (pe_un un_neg pe_int) (pa_cons (pe_m GU TP.cl hr (by decide) pass0 (pe_fld (pv 0) rfl) (pa_cons (pv 1) pa_nil)) pa_nil))))), ?_⟩)
  · obtain ⟨r, fa, R, t, rfl, _⟩ := h
    rfl
  · obtain ⟨r, fa, R, t, rfl, hR, cf, hf, ht, hc, ft, fu, k⟩ := h
    obtain ⟨p, i, a, b, sv, fp, fs, rfl, hL⟩ := id hR
    obtain ⟨dx, ob⟩ := hL.obj
    obtain ⟨dp, lc, lr, lw, op⟩ := prof_obj hL.prof
    refine ⟨_, rfl, r, dx, _, rfl, ob, rF_none (by decide +kernel), r, _, R, rfl, hR, cf, hf, fun H1 a1 s1 f1 => ?_⟩
    refine ⟨_, rfl, _, rfl, r, C, dx, _, _, rfl, s1 _ _ ob, T.cl, T.nP, rF_p, p, dp, _, rfl, s1 _ _ op, pF_none (by decide +kernel), _, rfl, p, fp, R.cells, t, rfl, hL.prof.same s1, ht, hc, fun H2 a2 s2 f2 => ?_⟩
    refine ⟨a1, a2, _, _, -1, rfl, f1.same s2, f2, ft, fu, by decide, fun H3 a3 s3 f3 => k H3 a3 ((s1.trans s2).trans s3) ?_⟩
    have e : ∀ x y : Rat, x + (((-1 : Int)) : Rat) * y = x - y := fun x y => by
      have e1 : (((-1 : Int)) : Rat) = -1 := rfl
      rw [e1]
      grind
    rw [e] at f3
    exact f3
end
end CF
namespace CF
open PySem PySem.Calls PyProof.Rows PySem.AutoSeq1
/-- a list extended by any tuple, one with an own dict or slots too -/
theorem extend_by_tuple (L T : Addr) (own given : Array Value) (c1 c2 : Nat) (td : Option Addr) (tsl : Array (Option Value)) (small1 : own.size ≤ sizeLine) (small2 : own.size + given.size ≤ sizeLine + 1)
    (room : ¬(!own.isEmpty && Builtin.List.listTooLong (own.size + given.size)) = true) :
    Meets (Builtin.«list.extend» ⟨[.ref L, .ref T], []⟩) fun _ R z => z.heap.get? L = some { cls := .type "list", dict := none, data := .seq own c1, slots := #[] } ∧ z.heap.get? T = some { cls := .type "tuple", dict := td, data := .seq given c2, slots := tsl } ∧
      R (.ok (.ret Value.none)) { z with heap := z.heap.update L (Obj.mapSeq fun x => x ++ given), toks := z.toks } := by
  refine .of_wp fun _ _ _ _ z h => ?_
  obtain ⟨heap, gens, drawn, toks, os⟩ := z
  obtain ⟨atL, atT, done⟩ := h
  have ixI := idx_int
  have tt := AutoSeq1.sub_tuple_tuple
  have ll := AutoSeq1.sub_list_list
  have tl := AutoSeq1.sub_tuple_list
  have lt := AutoSeq1.sub_list_tuple
  have sum : (own ++ given).size ≤ sizeLine + 1 := Array.size_append ▸ small2
  wp_walk using (wpAny_updateSeq atL rfl (hz := small1) (_hz' := sum)), wpAny_loadPart' atL, wpAny_loadPart' atT
  exact ⟨_, rfl, done⟩
end CF
namespace CF
open PySem PySem.Spec PyProof.Rows L2
/-- xs.extend(a tuple) -/
def rExtT : V → List V → Hp → VK → Prop := fun x vs H Q => ∃ l b xs zs, x = .ref l ∧ vs = [.ref b] ∧ H l = some (.lst xs) ∧ H b = some (.tup zs) ∧ xs.length + zs.length ≤ sizeLine ∧ Q .non (upd H l (.lst (xs ++ zs)))
theorem mt_extT {X : Cx} : MtM X "list.extend" rExtT := by
  rintro pins s σ H _ _ o us Q inv ro rs ⟨L, T, xs, ys, rfl, rfl, isL, isT, room, want⟩
  obtain ⟨u, rfl, ru⟩ := rs.one
  cases ro
  cases ru
  obtain ⟨_, its, c1, vals, len1, at1⟩ := inv.lstM isL
  obtain ⟨jts, vals2, ⟨⟨cls, td, data, tsl⟩, at2, isTup, c2, isSeq⟩, _⟩ := inv.tuple (SqT.of isT)
  dsimp only at isTup isSeq
  subst isTup isSeq
  have len2 := vals2.length
  have all : its.toArray.size + jts.toArray.size ≤ sizeLine := by
    simp only [List.size_toArray]
    omega
  refine call_meets F.slot_list_extend ⟨_, at1, rfl⟩ F.entry_list_extend (F.args_list_extend_2 _ _) (extend_by_tuple L T its.toArray jts.toArray c1 c2 td tsl (by simp only [List.size_toArray] at all ⊢; omega) (Nat.le_succ_of_le all) ?_) ⟨at1, at2, ?_⟩
  · rw [notLongL all, Bool.and_false]
    decide
  · exact ⟨.non, _, inv.lset (its' := its ++ jts) isL at1 (by simp) (vals.append vals2) (by rw [List.length_append]; omega), rfl, want⟩
/-! a dict of the module whose keys are ints -/
def litI (es : Array DictEntry) : Bool := es.toList.all fun e => match e.key with
  | .int k _ => e.hash == hashInt k
  | _ => false
structure IDict (K : PySem.W.Frag) (d : Addr) (es : Array DictEntry) (n : Nat) : Prop where
  stands : K.lookup d = some ⟨.type "dict", none, .dict es n, #[]⟩
  allInt : litI es = true
  notSys : (d == sysModules) = false
theorem IDict.mapOf {prog : Program} {w : World} {K : PySem.W.Frag} {d : Addr} {es : Array DictEntry} {n : Nat} {h : Heap} (D : IDict K d es n) (X : K.In h) : h.MapOf (intKind prog w) d (fun k => findBy Value.isInt es k) := by
  refine ⟨_, es, n, X _ _ D.stands, ⟨rfl, rfl, rfl⟩, rfl, fun e he => ?_, fun _ => rfl⟩
  have q := List.all_eq_true.mp D.allInt e (Array.mem_toList_iff.mpr he)
  generalize hk : e.key = v at q
  cases v with
  | int k t =>
    have q' : (e.hash == hashInt k) = true := q
    exact ⟨k, intKind_is prog w k t, eq_of_beq q'⟩
  | _ => exact absurd q (by simp)
/-- its item, by an int that it has -/
theorem ix_id {X : Cx} {d : Addr} {es : Array DictEntry} {n : Nat} (D : IDict X.K d es n) : IxR X (fun x y H Q => ∃ (k : Int) (u0 : Value) (v0 : V), x = .ref d ∧ y = .int k ∧ findBy Value.isInt es k = some u0 ∧ RelV v0 u0 ∧ Q v0 H) := by
  rintro _ _ pins s σ H _ _ _ _ Q inv rd rk ⟨k, u0, v0, rfl, rfl, found, rel, want⟩ plain
  cases rd
  obtain ⟨t, rfl⟩ := rk
  have map := D.mapOf (prog := X.prog) (w := X.w) inv.kIn
  exact tail_any map.typeIs slot_dict_getitem.lookup (wpAny_getItem_of (intKind_is X.prog X.w k t) map found ⟨v0, H, inv.tok _, rel, want⟩) plain
/-! a local name that holds one of several defs, which may raise -/
structure HeldX (CX : CXT) (P : Program) (w : World) (K : PySem.W.Frag) (mg : Str → Option Value) (base : Heap) (k : Nat) (f : Addr) (sp : Sp) : Prop where
  ex : ∃ (fd : FuncData) (ps : List Str), FnOk P w K mg base CX k f fd ps sp ∧ PySem.W.keepIn K (.ref f) = true ∧ Binds K fd ps []
def tCallAX (i : Nat) (S : Addr → Sp → Prop) (E : XK) (t : TA) : TE := fun σ H Q => ∃ f sp, σ[i]? = some (some (.ref f)) ∧ S f sp ∧ t σ H fun vs H1 => sp vs H1 Q E
theorem pe_callAX {X : Cx} {CX : CXT} {k j i : Nat} {S : Addr → Sp → Prop} {E : XK} {x : Str} {p pos : Pos} {a : Expr} {as : List Expr} {t : TA} (A : ∀ f sp, S f sp → HeldX CX X.prog X.w X.K X.mg X.base k f sp) (hr : Room j X.A) (hk : k ≤ j) (hx : Passes CX X E) (hN : X.N[i]? = some x) (hv : Vis X.env.scope x) (pa : PA X (a :: as) t)
    (n1 : (x == ("__debug__" : Str)) = false := by decide) (n2 : (x == ("__classdict__" : Str)) = false := by decide)
    (st : starEach (a :: as) X.env = (false, eval a X.env) :: starEach as X.env := by rfl) (pl : (backTo pos (starEach as X.env)).any (·.1) = false := by rfl) : PE X (.Call (.Name x p) (a :: as) [] pos) (tCallAX i S E t) := by
  constructor
  rintro pins s σ H Q inv ⟨f, sp, slot, one, want⟩
  obtain ⟨fd, ps, F, kp, b⟩ := (A f sp one).ex
  refine (pe_callL (i := i) (dvs := []) (E := E) F (hr.mono hk) hN hv kp b .nil hx pa n1 n2 st pl).run pins s σ H Q inv ⟨slot, ?_⟩
  simp only [List.append_nil]
  exact want
end CF
namespace CF
open PySem PySem.Spec PyProof.Rows L2
open PySem.W (Codec)
open Kqk1Neutral (requestOf fields)
def EC (CC CO CD CN CF CB : Addr) (c : Int) : Option Addr := if c = -2 then some CC else if c = -22 then some CO else if c = -75 then some CD else if c = -6 then some CN else if c = -34 then some CF else if c = -33 then some CB else none
/-- the def of call k at the desk: the reservoir, the call's numbers; its answer is the specification's -/
def spOp (C CP : Addr) (ec : Int → Option Addr) (k : Int) : Sp := fun vs H Q E => ∃ r fa R al xs q, ∃ m : Nat, vs = [.ref r, .ref al] ∧ H al = some (.lst (xs.map V.int)) ∧ (∀ x ∈ xs, 0 ≤ x ∧ x < 2 ^ 40) ∧ requestOf [k :: xs] = some q ∧ Res C CP H r fa R ∧ GoodR m R ∧ m ≤ 1000 ∧
  (∀ c a, ec c = some a → Kqk1.step (some R) q = (some R, .value c) → ∀ H', Same H H' → E (.ref a) none H') ∧
  (∀ R' res, Kqk1.step (some R) q = (some R', res) → ∀ H' fa' l, Keep fa H H' → Res C CP H' r fa' R' → (∀ x ∈ fa', x ∈ fa ∨ H x = none) → (l ∈ fa ∨ H l = none) → H' l = some (.lst ((fields res).map V.int)) → Q (.ref l) H')
theorem req1 {xs : List Int} {q : Kqk1.Request} (h : requestOf [1 :: xs] = some q) : ∃ a b, xs = [a, b] ∧ q = .setRockCapacity a.toNat b.toNat := by
  rcases xs with _ | ⟨a, _ | ⟨b, _ | ⟨c, r⟩⟩⟩
  · cases (show none = some q from h)
  · cases (show none = some q from h)
  · exact ⟨a, b, rfl, (Option.some.inj h).symm⟩
  · cases (show none = some q from h)
theorem req2 {xs : List Int} {q : Kqk1.Request} (h : requestOf [2 :: xs] = some q) : ∃ a b, xs = [a, b] ∧ q = .setTemperature a.toNat b.toNat := by
  rcases xs with _ | ⟨a, _ | ⟨b, _ | ⟨c, r⟩⟩⟩
  · cases (show none = some q from h)
  · cases (show none = some q from h)
  · exact ⟨a, b, rfl, (Option.some.inj h).symm⟩
  · cases (show none = some q from h)
theorem nat_of {a : Int} (h : 0 ≤ a ∧ a < 2 ^ 40) : ∃ n : Nat, a = (n : Int) := ⟨a.toNat, by omega⟩
abbrev sOp1 : Stmt := top 38
abbrev sOp2 : Stmt := top 39
section
variable {P : Program} {w : World} {K : PySem.W.Frag} {mg : Str → Option Value} {base : Heap} {C CP CO CC CD CN CF CB : Addr}
theorem ec2 : EC CC CO CD CN CF CB (-2) = some CC := rfl
theorem ec22 : EC CC CO CD CN CF CB (-22) = some CO := rfl
theorem ec75 : EC CC CO CD CN CF CB (-75) = some CD := rfl
theorem ec6 : EC CC CO CD CN CF CB (-6) = some CN := rfl
theorem ec34 : EC CC CO CD CN CF CB (-34) = some CF := rfl
theorem ec33 : EC CC CO CD CN CF CB (-33) = some CB := rfl
theorem scO : ∀ st : Stmt, True := fun _ => trivial
theorem scO1 : FnScope ["reservoir", "arguments"] ["reservoir", "arguments"] (defScope sOp1) := ⟨rfl, rfl, rfl, by decide +kernel, rfl, by decide +kernel, by decide +kernel⟩
theorem two_at0 {a b : V} : atI [a, b] 0 = some a := at0
theorem two_at1 {a b : V} : atI [a, b] 1 = some b := at1
theorem one_at0 {a : V} : atI [a] 0 = some a := atI_nat (xs := [a]) (j := 0) rfl
theorem res_obj {H : Hp} {r : Addr} {fa : List Addr} {R : Kqk1.Reservoir} (h : Res C CP H r fa R) : ∃ dx p i a b n sv, H r = some (.ins C dx (rF p i a b n sv)) := by
  obtain ⟨p, i, a, b, sv, fp, fs, rfl, hL⟩ := h
  obtain ⟨dx, o⟩ := hL.obj
  exact ⟨dx, p, i, a, b, _, sv, o⟩
/-- a new list behind a change -/
theorem res_list {H H1 : Hp} {r : Addr} {fa fa' : List Addr} {R : Kqk1.Reservoir} {l : Addr} {o : HO} (h : Res C CP H1 r fa' R) (hl : H1 l = none) : Res C CP (upd H1 l o) r fa' R := h.same (same_upd hl)
theorem keep_list {H H1 : Hp} {fa : List Addr} {l : Addr} {o : HO} (k : Keep fa H H1) (hl : H1 l = none) : Keep fa H (upd H1 l o) := k.trans (Keep.new hl)
theorem new_or {H H1 : Hp} {fa : List Addr} {l : Addr} (k : Keep fa H H1) (hl : H1 l = none) : l ∈ fa ∨ H l = none := by
  by_cases c : l ∈ fa
  · exact .inl c
  · exact .inr (k.free c hl)
theorem ok_op1 {f : Addr} {fd : FuncData} (F : Fun K "set_rock_capacity" "set_rock_capacity" sOp1 f fd) (T : RTxt K mg C) (G : MetOk (L2.CX P w) P w K mg base 4 C "set_rock_capacity" ["self", "cell", "rock_capacity"] (spRCap C CP CC CO)) : FnOk P w K mg base (L2.CX P w) 8 f fd ["reservoir", "arguments"] (spOp C CP (EC CC CO CD CN CF CB) 1) := by
  refine F.okX scO1 (fun vs H Q E h => ?_) (fun cdv A outer s H vs Q E hr h => ⟨_, pss_one (ps_ret (pe_lst (pa_cons (pe_m G T.cl hr (by decide) (passE (takes_of rfl rfl rfl rfl)) (pv 0) (pa_cons (pe_ix ix_list (pv 1) pe_int (fun _ _ => rfl)) (pa_cons (pe_ix ix_list (pv 1) pe_int (fun _ _ => rfl)) pa_nil))) pa_nil))), ?_⟩)
  · obtain ⟨r, fa, R, al, xs, q, m, rfl, _⟩ := h
    rfl
  · obtain ⟨r, fa, R, al, xs, q, m, rfl, hal, h0, hq, hR, gR, hm, ke, kq⟩ := h
    obtain ⟨a, b, rfl, rfl⟩ := req1 hq
    obtain ⟨i, rfl⟩ := nat_of (h0 a (by simp))
    obtain ⟨v, rfl⟩ := nat_of (h0 b (by simp))
    obtain ⟨dx, p, ii, a', b', n, sv, o⟩ := res_obj hR
    rw [Int.toNat_natCast, Int.toNat_natCast] at ke kq
    have st : Kqk1.step (some R) (.setRockCapacity i v) = if R.cells.length ≤ i then (some R, Kqk1.Result.value (-2)) else if v < 1 ∨ 20 < v then (some R, .value (-22)) else (some { R with cells := R.cells.set i { Kqk1.cell R i with rockCapacity := v } }, .value (Kqk1.cell R i).rockCapacity) := rfl
    refine ⟨_, rfl, r, dx, _, rfl, o, rF_none (by decide +kernel), _, rfl, al, _, 0, _, rfl, rfl, SqL.of hal, at0, _, rfl, al, _, 1, _, rfl, rfl, SqL.of hal, at1, r, fa, R, i, v, rfl, hR, fun c => ?_, fun c1 c2 => ?_, fun c1 c2 c3 H1 k1 r1 => ?_⟩
    · exact ke _ _ ec2 (by rw [st, if_pos c]) H (Same.refl H)
    · exact ke _ _ ec22 (by rw [st, if_neg (by omega), if_pos c2]) H (Same.refl H)
    · refine ⟨by show 1 ≤ sizeLine; decide, fun l hl => ?_⟩
      refine kq _ _ (by rw [st, if_neg (by omega), if_neg (by omega)]) _ fa l (keep_list k1 hl) (res_list (fa := fa) (H := H) r1 hl) (fun x hx => .inl hx) (new_or k1 hl) upd_same
end
end CF
namespace CF
open PySem PySem.Spec PyProof.Rows L2
open PySem.W (Codec)
open Kqk1Neutral (requestOf fields)
theorem reqA {k : Int} {xs : List Int} {q : Kqk1.Request} {g : Nat → Kqk1.Request} (h : requestOf [k :: xs] = some q) (h0 : requestOf [[k]] = none) (h1 : ∀ a, requestOf [[k, a]] = some (g a.toNat)) (h2 : ∀ a b r, requestOf [k :: a :: b :: r] = none) : ∃ a, xs = [a] ∧ q = g a.toNat := by
  rcases xs with _ | ⟨a, _ | ⟨b, r⟩⟩
  · rw [h0] at h; cases h
  · rw [h1] at h; exact ⟨a, rfl, (Option.some.inj h).symm⟩
  · rw [h2] at h; cases h
theorem reqN {k : Int} {xs : List Int} {q g : Kqk1.Request} (h : requestOf [k :: xs] = some q) (h0 : requestOf [[k]] = some g) (h1 : ∀ a r, requestOf [k :: a :: r] = none) : xs = [] ∧ q = g := by
  rcases xs with _ | ⟨a, r⟩
  · rw [h0] at h; exact ⟨rfl, (Option.some.inj h).symm⟩
  · rw [h1] at h; cases h
theorem three_none {k : Int} (h : ∀ a b c r, requestOf [k :: a :: b :: c :: r] = none) : True := trivial
theorem req3 {xs : List Int} {q : Kqk1.Request} (h : requestOf [3 :: xs] = some q) : ∃ a, xs = [a] ∧ q = .setAllTemperatures a.toNat := by
  rcases xs with _ | ⟨a, _ | ⟨b, r⟩⟩
  · cases (show none = some q from h)
  · exact ⟨a, rfl, (Option.some.inj h).symm⟩
  · cases (show none = some q from h)
theorem req4 {xs : List Int} {q : Kqk1.Request} (h : requestOf [4 :: xs] = some q) : ∃ a, xs = [a] ∧ q = .setInjectionTemperature a.toNat := by
  rcases xs with _ | ⟨a, _ | ⟨b, r⟩⟩
  · cases (show none = some q from h)
  · exact ⟨a, rfl, (Option.some.inj h).symm⟩
  · cases (show none = some q from h)
theorem req5 {xs : List Int} {q : Kqk1.Request} (h : requestOf [5 :: xs] = some q) : xs = [] ∧ q = .advance := by
  rcases xs with _ | ⟨a, r⟩
  · exact ⟨rfl, (Option.some.inj h).symm⟩
  · cases (show none = some q from h)
theorem req6 {xs : List Int} {q : Kqk1.Request} (h : requestOf [6 :: xs] = some q) : ∃ a, xs = [a] ∧ q = .advanceMany a.toNat := by
  rcases xs with _ | ⟨a, _ | ⟨b, r⟩⟩
  · cases (show none = some q from h)
  · exact ⟨a, rfl, (Option.some.inj h).symm⟩
  · cases (show none = some q from h)
theorem req7 {xs : List Int} {q : Kqk1.Request} (h : requestOf [7 :: xs] = some q) : xs = [] ∧ q = .equilibrate := by
  rcases xs with _ | ⟨a, r⟩
  · exact ⟨rfl, (Option.some.inj h).symm⟩
  · cases (show none = some q from h)
theorem req8 {xs : List Int} {q : Kqk1.Request} (h : requestOf [8 :: xs] = some q) : ∃ a, xs = [a] ∧ q = .forecast a.toNat := by
  rcases xs with _ | ⟨a, _ | ⟨b, r⟩⟩
  · cases (show none = some q from h)
  · exact ⟨a, rfl, (Option.some.inj h).symm⟩
  · cases (show none = some q from h)
theorem req9 {xs : List Int} {q : Kqk1.Request} (h : requestOf [9 :: xs] = some q) : ∃ a, xs = [a] ∧ q = .getCell a.toNat := by
  rcases xs with _ | ⟨a, _ | ⟨b, r⟩⟩
  · cases (show none = some q from h)
  · exact ⟨a, rfl, (Option.some.inj h).symm⟩
  · cases (show none = some q from h)
theorem req10 {xs : List Int} {q : Kqk1.Request} (h : requestOf [10 :: xs] = some q) : xs = [] ∧ q = .totalHeat := by
  rcases xs with _ | ⟨a, r⟩
  · exact ⟨rfl, (Option.some.inj h).symm⟩
  · cases (show none = some q from h)
abbrev sOp3 : Stmt := top 40
abbrev sOp4 : Stmt := top 41
abbrev sOp5 : Stmt := top 42
abbrev sOp6 : Stmt := top 43
abbrev sOp7 : Stmt := top 44
abbrev sOp8 : Stmt := top 45
abbrev sOp9 : Stmt := top 46
abbrev sOp10 : Stmt := top 47
section
variable {P : Program} {w : World} {K : PySem.W.Frag} {mg : Str → Option Value} {base : Heap} {C CP CO CC CD CN CF CB : Addr}
theorem live {H1 : Hp} {r : Addr} {fa : List Addr} {R : Kqk1.Reservoir} (h : Res C CP H1 r fa R) : ∀ b ∈ fa, ∃ o, H1 b = some o := fun b hb => by
  obtain ⟨o, e, _⟩ := h.noTup b hb
  exact ⟨o, e⟩
/-- list(a fraction), then [.., ..] + it -/
theorem cat_fr {H1 : Hp} {l0 a : Addr} {q : Rat} {ys : List V} {Q : VK} (h0 : H1 l0 = some (.lst ys)) (hy : ys.length ≤ 1000) (fa : FrA H1 a q) (k : ∀ H2 l, Same H1 H2 → H1 l = none → H2 l = some (.lst (ys ++ [.int q.num, .int (q.den : Int)])) → Q (.ref l) H2) :
    ∃ p zs, ([V.ref a] : List V) = [.ref p] ∧ (SqL K H1 p zs ∨ SqT K H1 p zs) ∧ ∀ l, H1 l = none → rCat (.ref l0) (.ref l) (upd H1 l (.lst zs)) Q := by
  refine ⟨a, _, rfl, .inr (SqT.of fa), fun l hl => ?_⟩
  have s1 : Same H1 (upd H1 l (.lst [.int q.num, .int (q.den : Int)])) := same_upd hl
  refine ⟨l0, l, _, _, rfl, rfl, s1 _ _ h0, upd_same, by show ys.length + 2 ≤ 16777216; omega, fun l2 hl2 => ?_⟩
  exact k _ l2 (s1.trans (same_upd hl2)) (s1.free hl2) upd_same
theorem scO3 : FnScope ["reservoir", "arguments"] ["reservoir", "arguments"] (defScope sOp3) := ⟨rfl, rfl, rfl, by decide +kernel, rfl, by decide +kernel, by decide +kernel⟩
theorem ok_op2 {f : Addr} {fd : FuncData} (F : Fun K "set_temperature" "set_temperature" sOp2 f fd) (T : RTxt K mg C) (G : MetOk (L2.CX P w) P w K mg base 4 C "set_temperature" ["self", "cell", "temperature"] (spRSet C CP CC CO)) : FnOk P w K mg base (L2.CX P w) 8 f fd ["reservoir", "arguments"] (spOp C CP (EC CC CO CD CN CF CB) 2) := by
  refine F.okX ⟨rfl, rfl, rfl, by decide +kernel, rfl, by decide +kernel, by decide +kernel⟩ (N := ["reservoir", "arguments"]) (fun vs H Q E h => ?_) (fun cdv A outer s H vs Q E hr h => ⟨_, pss_cons (ps_expr (pe_m G T.cl hr (by decide) (passE (takes_of rfl rfl rfl rfl)) (pv 0) (pa_cons (pe_ix ix_list (pv 1) pe_int (fun _ _ => rfl)) (pa_cons (pe_ix ix_list (pv 1) pe_int (fun _ _ => rfl)) pa_nil)))) (pss_one (ps_ret (pe_lst (pa_cons pe_int pa_nil)))), ?_⟩)
  · obtain ⟨r, fa, R, al, xs, q, m, rfl, _⟩ := h
    rfl
  · obtain ⟨r, fa, R, al, xs, q, m, rfl, hal, h0, hq, hR, gR, hm, ke, kq⟩ := h
    obtain ⟨a, b, rfl, rfl⟩ := req2 hq
    obtain ⟨i, rfl⟩ := nat_of (h0 a (by simp))
    obtain ⟨v, rfl⟩ := nat_of (h0 b (by simp))
    obtain ⟨dx, p, ii, a', b', n, sv, o⟩ := res_obj hR
    rw [Int.toNat_natCast, Int.toNat_natCast] at ke kq
    have st : Kqk1.step (some R) (.setTemperature i v) = if R.cells.length ≤ i then (some R, Kqk1.Result.value (-2)) else if 300 < v then (some R, .value (-22)) else (some { R with cells := R.cells.set i (heated (v : Rat) (Kqk1.cell R i)) }, .value 0) := rfl
    refine ⟨_, rfl, r, dx, _, rfl, o, rF_none (by decide +kernel), _, rfl, al, _, 0, _, rfl, rfl, SqL.of hal, at0, _, rfl, al, _, 1, _, rfl, rfl, SqL.of hal, at1, r, fa, R, i, v, rfl, hR, fun c => ?_, fun c1 c2 => ?_, fun c1 c2 H1 k1 r1 => ?_⟩
    · exact ke _ _ ec2 (by rw [st, if_pos c]) H (Same.refl H)
    · exact ke _ _ ec22 (by rw [st, if_neg (by omega), if_pos c2]) H (Same.refl H)
    · refine ⟨by show 1 ≤ sizeLine; decide, fun l hl => ?_⟩
      exact kq _ _ (by rw [st, if_neg (by omega), if_neg (by omega)]) _ fa l (keep_list k1 hl) (res_list (fa := fa) (H := H) r1 hl) (fun x hx => .inl hx) (new_or k1 hl) upd_same
theorem ok_op3 {f : Addr} {fd : FuncData} (F : Fun K "set_all_temperatures" "set_all_temperatures" sOp3 f fd) (T : RTxt K mg C) (G : MetOk (L2.CX P w) P w K mg base 4 C "set_all_temperatures" ["self", "temperature"] (spRAll C CP CO)) (GC : MetOk CX0 P w K mg base 2 C "cell_count" ["self"] (spRCount C CP)) : FnOk P w K mg base (L2.CX P w) 8 f fd ["reservoir", "arguments"] (spOp C CP (EC CC CO CD CN CF CB) 3) := by
  refine F.okX scO3 (fun vs H Q E h => ?_) (fun cdv A outer s H vs Q E hr h => ⟨_, pss_cons (ps_expr (pe_m G T.cl hr (by decide) (passE (takes_of rfl rfl rfl rfl)) (pv 0) (pa_cons (pe_ix ix_list (pv 1) pe_int (fun _ _ => rfl)) pa_nil))) (pss_one (ps_ret (pe_lst (pa_cons (pe_m0' GC T.cl hr (by decide) pass0 (pv 0)) pa_nil)))), ?_⟩)
  · obtain ⟨r, fa, R, al, xs, q, m, rfl, _⟩ := h
    rfl
  · obtain ⟨r, fa, R, al, xs, q, m, rfl, hal, h0, hq, hR, gR, hm, ke, kq⟩ := h
    obtain ⟨b, rfl, rfl⟩ := req3 hq
    obtain ⟨v, rfl⟩ := nat_of (h0 b (by simp))
    obtain ⟨dx, p, ii, a', b', n, sv, o⟩ := res_obj hR
    rw [Int.toNat_natCast] at ke kq
    have st : Kqk1.step (some R) (.setAllTemperatures v) = if 300 < v then (some R, Kqk1.Result.value (-22)) else (some { R with cells := R.cells.map (heated (v : Rat)) }, .value R.cells.length) := rfl
    refine ⟨_, rfl, r, dx, _, rfl, o, rF_none (by decide +kernel), _, rfl, al, _, 0, _, rfl, rfl, SqL.of hal, one_at0, r, fa, R, v, rfl, hR, by have := gR.l.l8; omega, fun c => ?_, fun c1 H1 k1 r1 => ?_⟩
    · exact ke _ _ ec22 (by rw [st, if_pos c]) H (Same.refl H)
    · obtain ⟨dx1, p1, ii1, a1, b1, n1, sv1, o1⟩ := res_obj r1
      refine ⟨_, rfl, r, dx1, _, rfl, o1, rF_none (by decide +kernel), r, fa, _, rfl, r1, by show 1 ≤ sizeLine; decide, fun l hl => ?_⟩
      refine kq _ _ (by rw [st, if_neg (by omega)]) _ fa l (keep_list k1 hl) (res_list (fa := fa) (H := H) r1 hl) (fun x hx => .inl hx) (new_or k1 hl) ?_
      rw [upd_same]
      show some (HO.lst [V.int (((R.cells.map (heated (v : Rat))).length : Nat) : Int)]) = _
      rw [List.length_map]
      rfl
theorem ok_op4 {f : Addr} {fd : FuncData} (F : Fun K "set_injection_temperature" "set_injection_temperature" sOp4 f fd) (T : RTxt K mg C) (TP : PTxt K mg CP) (G : MetOk (L2.CX P w) P w K mg base 2 C "set_injection_temperature" ["self", "temperature"] (spRInj C CP CO)) : FnOk P w K mg base (L2.CX P w) 8 f fd ["reservoir", "arguments"] (spOp C CP (EC CC CO CD CN CF CB) 4) := by
  refine F.okX (N := ["reservoir", "arguments"]) ⟨rfl, rfl, rfl, by decide +kernel, rfl, by decide +kernel, by decide +kernel⟩ (fun vs H Q E h => ?_) (fun cdv A outer s H vs Q E hr h => ⟨_, pss_one (ps_ret (pe_op op_cat (pe_lst (pa_cons pe_int pa_nil)) (pe_callTy call_list_of rfl TP.gL boot_list (pa_cons (pe_m G T.cl hr (by decide) (passE (takes_of rfl rfl rfl rfl)) (pv 0) (pa_cons (pe_ix ix_list (pv 1) pe_int (fun _ _ => rfl)) pa_nil)) pa_nil)))), ?_⟩)
  · obtain ⟨r, fa, R, al, xs, q, m, rfl, _⟩ := h
    rfl
  · obtain ⟨r, fa, R, al, xs, q, m, rfl, hal, h0, hq, hR, gR, hm, ke, kq⟩ := h
    obtain ⟨b, rfl, rfl⟩ := req4 hq
    obtain ⟨v, rfl⟩ := nat_of (h0 b (by simp))
    rw [Int.toNat_natCast] at ke kq
    have st : Kqk1.step (some R) (.setInjectionTemperature v) = if 300 < v then (some R, Kqk1.Result.value (-22)) else (some { R with injection := (v : Rat) }, .values 0 (Kqk1.fraction R.injection)) := rfl
    refine ⟨by show 1 ≤ sizeLine; decide, fun l0 hl0 => ?_⟩
    have s0 : Same H (upd H l0 (.lst [.int 0])) := same_upd hl0
    have g0 : (upd H l0 (.lst [.int 0])) l0 = some (.lst [.int 0]) := upd_same
    generalize upd H l0 (.lst [.int 0]) = H0 at s0 g0 ⊢
    have r0 := hR.same s0
    obtain ⟨dx, p, ii, a', b', n, sv, o⟩ := res_obj r0
    refine ⟨_, rfl, r, dx, _, rfl, o, rF_none (by decide +kernel), _, rfl, al, _, 0, _, rfl, rfl, SqL.of (s0 _ _ hal), one_at0, r, fa, R, v, rfl, r0, fun c => ?_, fun c1 H1 a1 k1 r1 f1 => ?_⟩
    · exact ke _ _ ec22 (by rw [st, if_pos c]) H0 s0
    · have l0f : l0 ∉ fa := fun z => by
        obtain ⟨u, e⟩ := live hR l0 z
        rw [hl0] at e
        cases e
      refine cat_fr (k1 _ _ g0 l0f) (by decide) f1 fun H2 l s2 hl h2 => ?_
      have k02 : Keep fa H H2 := ((Keep.of_same s0).trans k1).trans (Keep.of_same s2)
      exact kq _ (.values 0 (Kqk1.fraction R.injection)) (by rw [st, if_neg (by omega)]) H2 fa l k02 (r1.same s2) (fun x hx => .inl hx) (new_or ((Keep.of_same s0).trans k1) hl) h2
theorem ok_op5 {f : Addr} {fd : FuncData} (F : Fun K "advance" "advance" sOp5 f fd) (T : RTxt K mg C) (TP : PTxt K mg CP) (G : MetOk (L2.CX P w) P w K mg base 7 C "advance" ["self"] (spRAdv C CP CD)) : FnOk P w K mg base (L2.CX P w) 8 f fd ["reservoir", "arguments"] (spOp C CP (EC CC CO CD CN CF CB) 5) := by
  refine F.okX (N := ["reservoir", "arguments"]) ⟨rfl, rfl, rfl, by decide +kernel, rfl, by decide +kernel, by decide +kernel⟩ (fun vs H Q E h => ?_) (fun cdv A outer s H vs Q E hr h => ⟨_, pss_one (ps_ret (pe_op op_cat (pe_lst (pa_cons pe_int pa_nil)) (pe_callTy call_list_of rfl TP.gL boot_list (pa_cons (pe_m0' G T.cl hr (by decide) (passE (takes_of rfl rfl rfl rfl)) (pv 0)) pa_nil)))), ?_⟩)
  · obtain ⟨r, fa, R, al, xs, q, m, rfl, _⟩ := h
    rfl
  · obtain ⟨r, fa, R, al, xs, q, m, rfl, hal, h0, hq, hR, gR, hm, ke, kq⟩ := h
    obtain ⟨rfl, rfl⟩ := req5 hq
    have st : Kqk1.step (some R) .advance = if smallR (afterN R 1) = true then (some (afterN R 1), Kqk1.fractions [Kqk1.outlet R.cells]) else (some R, Kqk1.Result.value (-75)) := by
      show Kqk1.commit R (Kqk1.advance R) (Kqk1.fractions [Kqk1.outlet R.cells]) = _
      unfold Kqk1.commit
      rw [dens_is, one_is]
    refine ⟨by show 1 ≤ sizeLine; decide, fun l0 hl0 => ?_⟩
    have s0 : Same H (upd H l0 (.lst [.int 0])) := same_upd hl0
    have g0 : (upd H l0 (.lst [.int 0])) l0 = some (.lst [.int 0]) := upd_same
    generalize upd H l0 (.lst [.int 0]) = H0 at s0 g0 ⊢
    have r0 := hR.same s0
    obtain ⟨dx, p, ii, a', b', n, sv, o⟩ := res_obj r0
    refine ⟨_, rfl, r, dx, _, rfl, o, rF_none (by decide +kernel), r, fa, R, rfl, r0, many_fit gR hm (by decide), fun c H1 fa1 a1 k1 r1 sub1 f1 => ?_, fun c H1 s1 => ?_⟩
    · have l0f : l0 ∉ fa := fun z => by
        obtain ⟨u, e⟩ := live hR l0 z
        rw [hl0] at e
        cases e
      refine cat_fr (k1 _ _ g0 l0f) (by decide) f1 fun H2 l s2 hl h2 => ?_
      have k01 : Keep fa H H1 := (Keep.of_same s0).trans k1
      have k02 : Keep fa H H2 := k01.trans (Keep.of_same s2)
      have sub2 : ∀ x ∈ fa1, x ∈ fa ∨ H x = none := fun x hx => by
        rcases sub1 x hx with h | h
        · exact .inl h
        · exact .inr (s0.free h)
      refine kq _ _ (by rw [st, if_pos c]) H2 fa1 l k02 (r1.same s2) sub2 (new_or k01 hl) ?_
      rw [h2]
      have e : tot R.injection R.cells 1 = Kqk1.outlet R.cells := by
        show (0 : Rat) + Kqk1.outlet R.cells = Kqk1.outlet R.cells
        grind
      rw [e]
      rfl
    · exact ke _ _ ec75 (by rw [st, if_neg (by rw [c]; decide)]) H1 (s0.trans s1)
end
end CF
namespace CF
open PySem PySem.Spec PyProof.Rows L2
open PySem.W (Codec)
open Kqk1Neutral (requestOf fields)
section
variable {P : Program} {w : World} {K : PySem.W.Frag} {mg : Str → Option Value} {base : Heap} {C CP CO CC CD CN CF CB : Addr}
theorem not_fa {H : Hp} {r l0 : Addr} {fa : List Addr} {R : Kqk1.Reservoir} (h : Res C CP H r fa R) (hl0 : H l0 = none) : l0 ∉ fa := fun z => by
  obtain ⟨u, e⟩ := live h l0 z
  rw [hl0] at e
  cases e
theorem sub_same {H H0 : Hp} {fa fa' : List Addr} (s0 : Same H H0) (sub : ∀ x ∈ fa', x ∈ fa ∨ H0 x = none) : ∀ x ∈ fa', x ∈ fa ∨ H x = none := fun x hx => by
  rcases sub x hx with h | h
  · exact .inl h
  · exact .inr (s0.free h)
theorem ok_op6 {f : Addr} {fd : FuncData} (F : Fun K "advance_many" "advance_many" sOp6 f fd) (T : RTxt K mg C) (TP : PTxt K mg CP) (G : MetOk (L2.CX P w) P w K mg base 6 C "advance_many" ["self", "steps"] (spRMany C CP CO CD)) : FnOk P w K mg base (L2.CX P w) 8 f fd ["reservoir", "arguments"] (spOp C CP (EC CC CO CD CN CF CB) 6) := by
  refine F.okX (N := ["reservoir", "arguments"]) ⟨rfl, rfl, rfl, by decide +kernel, rfl, by decide +kernel, by decide +kernel⟩ (fun vs H Q E h => ?_) (fun cdv A outer s H vs Q E hr h => ⟨_, pss_one (ps_ret (pe_op op_cat (pe_lst (pa_cons pe_int pa_nil)) (pe_callTy call_list_of rfl TP.gL boot_list (pa_cons (pe_m G T.cl hr (by decide) (passE (takes_of rfl rfl rfl rfl)) (pv 0) (pa_cons (pe_ix ix_list (pv 1) pe_int (fun _ _ => rfl)) pa_nil)) pa_nil)))), ?_⟩)
  · obtain ⟨r, fa, R, al, xs, q, m, rfl, _⟩ := h
    rfl
  · obtain ⟨r, fa, R, al, xs, q, m, rfl, hal, h0, hq, hR, gR, hm, ke, kq⟩ := h
    obtain ⟨b, rfl, rfl⟩ := req6 hq
    obtain ⟨v, rfl⟩ := nat_of (h0 b (by simp))
    rw [Int.toNat_natCast] at ke kq
    have st : Kqk1.step (some R) (.advanceMany v) = if v < 1 ∨ 20 < v then (some R, Kqk1.Result.value (-22)) else if smallR (afterN R v) = true then (some (afterN R v), Kqk1.fractions [(afterN R v).producedSum - R.producedSum]) else (some R, Kqk1.Result.value (-75)) := by
      show (if v < 1 ∨ 20 < v then (some R, Kqk1.Result.value (-22)) else Kqk1.commit R (Kqk1.advanceMany v R) (Kqk1.fractions [(Kqk1.advanceMany v R).producedSum - R.producedSum])) = _
      unfold Kqk1.commit
      rw [dens_is, many_is]
    refine ⟨by show 1 ≤ sizeLine; decide, fun l0 hl0 => ?_⟩
    have s0 : Same H (upd H l0 (.lst [.int 0])) := same_upd hl0
    have g0 : (upd H l0 (.lst [.int 0])) l0 = some (.lst [.int 0]) := upd_same
    generalize upd H l0 (.lst [.int 0]) = H0 at s0 g0 ⊢
    have r0 := hR.same s0
    obtain ⟨dx, p, ii, a', b', n, sv, o⟩ := res_obj r0
    refine ⟨_, rfl, r, dx, _, rfl, o, rF_none (by decide +kernel), _, rfl, al, _, 0, _, rfl, rfl, SqL.of (s0 _ _ hal), one_at0, r, fa, R, v, rfl, r0, fun c => ?_, fun c1 c2 => ⟨many_fit gR hm c2, fun c H1 fa1 a1 k1 r1 sub1 f1 => ?_, fun c H1 s1 => ?_⟩⟩
    · exact ke _ _ ec22 (by rw [st, if_pos c]) H0 s0
    · refine cat_fr (k1 _ _ g0 (not_fa hR hl0)) (by decide) f1 fun H2 l s2 hl h2 => ?_
      have k01 : Keep fa H H1 := (Keep.of_same s0).trans k1
      refine kq _ _ (by rw [st, if_neg (by omega), if_pos c]) H2 fa1 l (k01.trans (Keep.of_same s2)) (r1.same s2) (sub_same s0 sub1) (new_or k01 hl) ?_
      rw [h2]
      have e : (afterN R v).producedSum - R.producedSum = tot R.injection R.cells v := by
        show R.producedSum + tot R.injection R.cells v - R.producedSum = _
        grind
      rw [e]
      rfl
    · exact ke _ _ ec75 (by rw [st, if_neg (by omega), if_neg (by rw [c]; decide)]) H1 (s0.trans s1)
theorem ok_op7 {f : Addr} {fd : FuncData} (F : Fun K "equilibrate" "equilibrate" sOp7 f fd) (T : RTxt K mg C) (G : MetOk (L2.CX P w) P w K mg base 5 C "equilibrate" ["self"] (spREq C CP CD)) (GC : MetOk CX0 P w K mg base 2 C "cell_count" ["self"] (spRCount C CP)) : FnOk P w K mg base (L2.CX P w) 8 f fd ["reservoir", "arguments"] (spOp C CP (EC CC CO CD CN CF CB) 7) := by
  refine F.okX (N := ["reservoir", "arguments"]) ⟨rfl, rfl, rfl, by decide +kernel, rfl, by decide +kernel, by decide +kernel⟩ (fun vs H Q E h => ?_) (fun cdv A outer s H vs Q E hr h => ⟨_, pss_cons (ps_expr (pe_m0' G T.cl hr (by decide) (passE (takes_of rfl rfl rfl rfl)) (pv 0))) (pss_one (ps_ret (pe_lst (pa_cons (pe_m0' GC T.cl hr (by decide) pass0 (pv 0)) pa_nil)))), ?_⟩)
  · obtain ⟨r, fa, R, al, xs, q, m, rfl, _⟩ := h
    rfl
  · obtain ⟨r, fa, R, al, xs, q, m, rfl, hal, h0, hq, hR, gR, hm, ke, kq⟩ := h
    obtain ⟨rfl, rfl⟩ := req7 hq
    obtain ⟨dx, p, ii, a', b', n, sv, o⟩ := res_obj hR
    have sm : smallR { R with cells := R.cells.map Kqk1.equilibrated } = (temps (R.cells.map Kqk1.equilibrated)).all small := by
      rw [smallR_split]
      have e1 : small R.injectedSum = true := decide_eq_true gR.sd
      have e2 : small R.producedSum = true := decide_eq_true gR.pd
      show ((temps (R.cells.map Kqk1.equilibrated)).all small && (small R.injectedSum && small R.producedSum)) = _
      rw [e1, e2, Bool.and_self, Bool.and_true]
    have st : Kqk1.step (some R) .equilibrate = if (temps (R.cells.map Kqk1.equilibrated)).all small = true then (some { R with cells := R.cells.map Kqk1.equilibrated }, Kqk1.Result.value R.cells.length) else (some R, Kqk1.Result.value (-75)) := by
      show Kqk1.commit R { R with cells := R.cells.map Kqk1.equilibrated } (.value R.cells.length) = _
      unfold Kqk1.commit
      rw [dens_is, sm]
    refine ⟨_, rfl, r, dx, _, rfl, o, rF_none (by decide +kernel), r, fa, R, rfl, hR, cells_fit gR.l, by have := gR.l.l8; omega, fun c H1 fa1 k1 r1 sub1 => ?_, fun c H1 s1 => ?_⟩
    · obtain ⟨dx1, p1, ii1, a1, b1, n1, sv1, o1⟩ := res_obj r1
      refine ⟨_, rfl, r, dx1, _, rfl, o1, rF_none (by decide +kernel), r, fa1, _, rfl, r1, by show 1 ≤ sizeLine; decide, fun l hl => ?_⟩
      refine kq _ _ (by rw [st, if_pos c]) _ fa1 l (keep_list k1 hl) (res_list (fa := fa) (H := H) r1 hl) sub1 (new_or k1 hl) ?_
      rw [upd_same]
      show some (HO.lst [V.int (((R.cells.map Kqk1.equilibrated).length : Nat) : Int)]) = _
      rw [List.length_map]
      rfl
    · exact ke _ _ ec75 (by rw [st, if_neg (by rw [c]; decide)]) H1 s1
theorem flat_more {q : Rat} {l : List Rat} : (l ++ [q]).flatMap Kqk1.fraction = l.flatMap Kqk1.fraction ++ [q.num, (q.den : Int)] := by
  rw [List.flatMap_append]
  rfl
theorem flat_len : ∀ l : List Rat, (l.flatMap Kqk1.fraction).length = 2 * l.length
  | [] => rfl
  | q :: l => by
    rw [List.flatMap_cons, List.length_append, flat_len l, List.length_cons]
    show 2 + 2 * l.length = _
    omega
theorem ok_op10 {f : Addr} {fd : FuncData} (F : Fun K "total_heat" "total_heat" sOp10 f fd) (T : RTxt K mg C) (TP : PTxt K mg CP) (G : MetOk CX0 P w K mg base 6 C "total_heat" ["self"] (spRHeat C CP)) : FnOk P w K mg base (L2.CX P w) 8 f fd ["reservoir", "arguments"] (spOp C CP (EC CC CO CD CN CF CB) 10) := by
  refine F.okX (N := ["reservoir", "arguments"]) ⟨rfl, rfl, rfl, by decide +kernel, rfl, by decide +kernel, by decide +kernel⟩ (fun vs H Q E h => ?_) (fun cdv A outer s H vs Q E hr h => ⟨_, pss_one (ps_ret (pe_op op_cat (pe_lst (pa_cons pe_int pa_nil)) (pe_callTy call_list_of rfl TP.gL boot_list (pa_cons (pe_m0' G T.cl hr (by decide) pass0 (pv 0)) pa_nil)))), ?_⟩)
  · obtain ⟨r, fa, R, al, xs, q, m, rfl, _⟩ := h
    rfl
  · obtain ⟨r, fa, R, al, xs, q, m, rfl, hal, h0, hq, hR, gR, hm, ke, kq⟩ := h
    obtain ⟨rfl, rfl⟩ := req10 hq
    refine ⟨by show 1 ≤ sizeLine; decide, fun l0 hl0 => ?_⟩
    have s0 : Same H (upd H l0 (.lst [.int 0])) := same_upd hl0
    have g0 : (upd H l0 (.lst [.int 0])) l0 = some (.lst [.int 0]) := upd_same
    generalize upd H l0 (.lst [.int 0]) = H0 at s0 g0 ⊢
    have r0 := hR.same s0
    obtain ⟨dx, p, ii, a', b', n, sv, o⟩ := res_obj r0
    refine ⟨_, rfl, r, dx, _, rfl, o, rF_none (by decide +kernel), r, fa, R, rfl, r0, cells_fit gR.l, heat_fit gR.l, fun H1 a1 s1 f1 => ?_⟩
    refine cat_fr (s1 _ _ g0) (by decide) f1 fun H2 l s2 hl h2 => ?_
    have s02 := (s0.trans s1).trans s2
    exact kq R (Kqk1.fractions [Kqk1.totalHeat R.cells]) rfl H2 fa l (Keep.of_same s02) (hR.same s02) (fun x hx => .inl hx) (.inr ((s0.trans s1).free hl)) h2
end
end CF
namespace CF
open PySem PySem.Spec PyProof.Rows L2
open PySem.W (Codec)
open Kqk1Neutral (requestOf fields)
abbrev sWf : Stmt := top 37
abbrev sOp11 : Stmt := top 48
abbrev sOp12 : Stmt := top 49
abbrev sOp13 : Stmt := top 50
def spWf (o : List V → HO) : Sp := fun vs H Q _ => ∃ (l : Addr) (n : Int) (ws : List V) (qs : List Rat), vs = [.int n, .ref l] ∧ H l = some (o ws) ∧ Frs H ws qs ∧ qs.length ≤ 1000 ∧
  ∀ H' p, Same H H' → H p = none → H' p = some (.lst ((n :: qs.flatMap Kqk1.fraction).map V.int)) → Q (.ref p) H'
theorem req11 {xs : List Int} {q : Kqk1.Request} (h : requestOf [11 :: xs] = some q) : xs = [] ∧ q = .balance := by
  rcases xs with _ | ⟨a, r⟩
  · exact ⟨rfl, (Option.some.inj h).symm⟩
  · cases (show none = some q from h)
theorem req12 {xs : List Int} {q : Kqk1.Request} (h : requestOf [12 :: xs] = some q) : xs = [] ∧ q = .hottest := by
  rcases xs with _ | ⟨a, r⟩
  · exact ⟨rfl, (Option.some.inj h).symm⟩
  · cases (show none = some q from h)
theorem req13 {xs : List Int} {q : Kqk1.Request} (h : requestOf [13 :: xs] = some q) : xs = [] ∧ q = .coldest := by
  rcases xs with _ | ⟨a, r⟩
  · exact ⟨rfl, (Option.some.inj h).symm⟩
  · cases (show none = some q from h)
theorem fold_great : ∀ (l : List Rat) (a : Rat), (l.foldl (fun x y => if x < y then y else x) a = a ∨ l.foldl (fun x y => if x < y then y else x) a ∈ l) ∧ a ≤ l.foldl (fun x y => if x < y then y else x) a ∧ ∀ q ∈ l, q ≤ l.foldl (fun x y => if x < y then y else x) a
  | [], a => ⟨.inl rfl, Rat.le_refl, by simp⟩
  | x :: l, a => by
    obtain ⟨h1, h2, h3⟩ := fold_great l (if a < x then x else a)
    rw [List.foldl_cons]
    generalize l.foldl (fun x y => if x < y then y else x) (if a < x then x else a) = m at h1 h2 h3
    by_cases c : a < x
    · rw [if_pos c] at h1 h2
      refine ⟨.inr ?_, Rat.le_trans (Rat.le_of_lt c) h2, fun q hq => ?_⟩
      · rcases h1 with e | e
        · simp [e]
        · simp [e]
      · rcases List.mem_cons.mp hq with rfl | hq
        · exact h2
        · exact h3 q hq
    · rw [if_neg c] at h1 h2
      refine ⟨?_, h2, fun q hq => ?_⟩
      · rcases h1 with e | e
        · exact .inl e
        · exact .inr (by simp [e])
      · rcases List.mem_cons.mp hq with rfl | hq
        · exact Rat.le_trans (Rat.not_lt.mp c) h2
        · exact h3 q hq
theorem fold_small : ∀ (l : List Rat) (a : Rat), (l.foldl (fun x y => if y < x then y else x) a = a ∨ l.foldl (fun x y => if y < x then y else x) a ∈ l) ∧ l.foldl (fun x y => if y < x then y else x) a ≤ a ∧ ∀ q ∈ l, l.foldl (fun x y => if y < x then y else x) a ≤ q
  | [], a => ⟨.inl rfl, Rat.le_refl, by simp⟩
  | x :: l, a => by
    obtain ⟨h1, h2, h3⟩ := fold_small l (if x < a then x else a)
    rw [List.foldl_cons]
    generalize l.foldl (fun x y => if y < x then y else x) (if x < a then x else a) = m at h1 h2 h3
    by_cases c : x < a
    · rw [if_pos c] at h1 h2
      refine ⟨.inr ?_, Rat.le_trans h2 (Rat.le_of_lt c), fun q hq => ?_⟩
      · rcases h1 with e | e
        · simp [e]
        · simp [e]
      · rcases List.mem_cons.mp hq with rfl | hq
        · exact h2
        · exact h3 q hq
    · rw [if_neg c] at h1 h2
      refine ⟨?_, h2, fun q hq => ?_⟩
      · rcases h1 with e | e
        · exact .inl e
        · exact .inr (by simp [e])
      · rcases List.mem_cons.mp hq with rfl | hq
        · exact Rat.le_trans h2 (Rat.not_lt.mp c)
        · exact h3 q hq
theorem temps_mem (q : Rat) : ∀ cells : List Kqk1.Cell, q ∈ Kqk1.temperatures cells ↔ q ∈ temps cells := by
  intro cells
  unfold Kqk1.temperatures temps
  rw [List.mem_flatMap, List.mem_append, List.mem_map, List.mem_map]
  constructor
  · rintro ⟨c, hc, h⟩
    have e : q = c.rock ∨ q = c.water := by simpa using h
    rcases e with rfl | rfl
    · exact .inl ⟨c, hc, rfl⟩
    · exact .inr ⟨c, hc, rfl⟩
  · rintro (⟨c, hc, rfl⟩ | ⟨c, hc, rfl⟩)
    · exact ⟨c, hc, by simp⟩
    · exact ⟨c, hc, by simp⟩
theorem greatest_is {cells : List Kqk1.Cell} (hne : cells ≠ []) {m : Rat} (hm : m ∈ temps cells) (hle : ∀ q ∈ temps cells, q ≤ m) : Kqk1.greatest (Kqk1.temperatures cells) = m := by
  obtain ⟨c, r, rfl⟩ := List.exists_cons_of_ne_nil hne
  obtain ⟨h1, h2, h3⟩ := fold_great (Kqk1.temperatures (c :: r)) c.rock
  have e : Kqk1.greatest (Kqk1.temperatures (c :: r)) = (Kqk1.temperatures (c :: r)).foldl (fun x y => if x < y then y else x) c.rock := rfl
  rw [← e] at h1 h2 h3
  refine Rat.le_antisymm ?_ (h3 m ((temps_mem m _).mpr hm))
  refine hle _ ((temps_mem _ _).mp ?_)
  rcases h1 with z | z
  · rw [z]
    show c.rock ∈ c.rock :: c.water :: Kqk1.temperatures r
    simp
  · exact z
theorem smallest_is {cells : List Kqk1.Cell} (hne : cells ≠ []) {m : Rat} (hm : m ∈ temps cells) (hle : ∀ q ∈ temps cells, m ≤ q) : Kqk1.smallest (Kqk1.temperatures cells) = m := by
  obtain ⟨c, r, rfl⟩ := List.exists_cons_of_ne_nil hne
  obtain ⟨h1, h2, h3⟩ := fold_small (Kqk1.temperatures (c :: r)) c.rock
  have e : Kqk1.smallest (Kqk1.temperatures (c :: r)) = (Kqk1.temperatures (c :: r)).foldl (fun x y => if y < x then y else x) c.rock := rfl
  rw [← e] at h1 h2 h3
  refine Rat.le_antisymm (h3 m ((temps_mem m _).mpr hm)) ?_
  refine hle _ ((temps_mem _ _).mp ?_)
  rcases h1 with z | z
  · rw [z]
    show c.rock ∈ c.rock :: c.water :: Kqk1.temperatures r
    simp
  · exact z
section
variable {P : Program} {w : World} {K : PySem.W.Frag} {mg : Str → Option Value} {base : Heap} {C CP CO CC CD CN CF CB : Addr}
theorem scWf : FnScope ["number", "fractions", "answer", "fraction"] ["number", "fractions"] (defScope sWf) := ⟨rfl, rfl, rfl, by decide +kernel, rfl, by decide +kernel, by decide +kernel⟩
theorem wf_step {H H' : Hp} {an : Addr} {ws : List V} {qs : List Rat} {n : Int} {i : Nat} {x : V} (han : H an = none) (hf : Frs H ws qs) (sm : qs.length ≤ 1000) (hx : ws[i]? = some x) (s3 : Same H H') :
    ∃ a zs, x = .ref a ∧ H' a = some (.tup zs) ∧ ((n :: (qs.take i).flatMap Kqk1.fraction).map V.int).length + zs.length ≤ sizeLine ∧ Same H (upd H' an (.lst ((n :: (qs.take i).flatMap Kqk1.fraction).map V.int ++ zs))) ∧
      upd H' an (.lst ((n :: (qs.take i).flatMap Kqk1.fraction).map V.int ++ zs)) an = some (.lst ((n :: (qs.take (i + 1)).flatMap Kqk1.fraction).map V.int)) := by
  have hi := (List.getElem?_eq_some_iff.mp hx).1
  have hl := hf.length
  have hi2 : i < qs.length := by omega
  have hq2 := List.getElem?_eq_getElem hi2
  obtain ⟨a, rfl, fa'⟩ := hf.get hx hq2
  refine ⟨a, _, rfl, fa'.same s3, ?_, fun y u e => ?_, ?_⟩
  · show (List.map V.int _).length + 2 ≤ 16777216
    rw [List.length_map, List.length_cons, flat_len, List.length_take]
    omega
  · rw [upd_ne (ne_of_none e han)]
    exact s3 y u e
  · rw [upd_same, take_more hq2, flat_more]
    simp only [List.map_append, List.map_cons, List.cons_append]
    rfl
theorem ok_wfl {f : Addr} {fd : FuncData} (F : Fun K "with_fractions" "with_fractions" sWf f fd) : FnOk P w K mg base CX0 1 f fd ["number", "fractions"] (spWf HO.lst) := by
  refine F.ok scWf (fun vs H Q E h => ?_) (fun cdv A outer s H vs Q E hr h => ⟨_, pss_cons (ps_set (i := 2) scWf.nd rfl (Or.inl rfl) (pe_lst (pa_cons (pv 0) pa_nil)))
    (pss_cons (ps_for PassesOwn.never rfl (pi_list (pv 1)) (pg_name (i := 3) scWf.nd rfl (Or.inl rfl))
      (pss_one (ps_expr (pe_bm PySem.F.plainAttrs_list PySem.F.slot_list_extend PySem.F.type_list_extend mt_extT (pv 2) (pa_cons (pv 3) pa_nil)))))
    (pss_one (ps_ret (pv 2)))), ?_⟩)
  · obtain ⟨l, n, ws, qs, rfl, _⟩ := h
    rfl
  · obtain ⟨l, n, ws, qs, rfl, hl, hf, sm, k⟩ := h
    refine ⟨_, rfl, by show 1 ≤ sizeLine; decide, fun an han => ?_⟩
    have s2 : Same H (upd H an (.lst [.int n])) := same_upd han
    have g2 : (upd H an (.lst [.int n])) an = some (.lst [.int n]) := upd_same
    generalize upd H an (.lst [.int n]) = H2 at s2 g2 ⊢
    refine ⟨_, rfl, l, rfl, ⟨_, SqL.of (s2 _ _ hl)⟩, for_list (K := K) (a := l) (xs := ws) (fun i σ H' => ∃ v3, σ = [some (.int n), some (.ref l), some (.ref an), v3] ∧ Same H H' ∧ H' an = some (.lst ((n :: (qs.take i).flatMap Kqk1.fraction).map V.int)))
      ⟨none, rfl, s2, g2⟩ (fun i σ H' _ ⟨_, _, s, _⟩ => SqL.of (s _ _ hl)) ?_ ?_⟩
    · rintro i x σ H' hx ⟨v3, rfl, s3, ha⟩
      obtain ⟨a, zs, rfl, h1, h2, h3, h4⟩ := wf_step (n := n) han hf sm hx s3
      exact ⟨_, rfl, .inl ⟨rfl, _, .inl (.inl ha)⟩, _, rfl, an, a, _, zs, rfl, rfl, ha, h1, h2, _, rfl, h3, h4⟩
    · rintro σ H' ⟨v3, rfl, s3, ha⟩
      rw [hf.length, List.take_length] at ha
      exact ⟨_, rfl, k H' an s3 han ha⟩
theorem ok_wft {f : Addr} {fd : FuncData} (F : Fun K "with_fractions" "with_fractions" sWf f fd) : FnOk P w K mg base CX0 1 f fd ["number", "fractions"] (spWf HO.tup) := by
  refine F.ok scWf (fun vs H Q E h => ?_) (fun cdv A outer s H vs Q E hr h => ⟨_, pss_cons (ps_set (i := 2) scWf.nd rfl (Or.inl rfl) (pe_lst (pa_cons (pv 0) pa_nil)))
    (pss_cons (ps_for PassesOwn.never rfl (pi_tup (pv 1)) (pg_name (i := 3) scWf.nd rfl (Or.inl rfl))
      (pss_one (ps_expr (pe_bm PySem.F.plainAttrs_list PySem.F.slot_list_extend PySem.F.type_list_extend mt_extT (pv 2) (pa_cons (pv 3) pa_nil)))))
    (pss_one (ps_ret (pv 2)))), ?_⟩)
  · obtain ⟨l, n, ws, qs, rfl, _⟩ := h
    rfl
  · obtain ⟨l, n, ws, qs, rfl, hl, hf, sm, k⟩ := h
    refine ⟨_, rfl, by show 1 ≤ sizeLine; decide, fun an han => ?_⟩
    have s2 : Same H (upd H an (.lst [.int n])) := same_upd han
    have g2 : (upd H an (.lst [.int n])) an = some (.lst [.int n]) := upd_same
    generalize upd H an (.lst [.int n]) = H2 at s2 g2 ⊢
    refine ⟨_, rfl, l, rfl, ⟨_, SqT.of (s2 _ _ hl)⟩, for_it (walk_tup (K := K) (a := l) (xs := ws)) (fun i σ H' => ∃ v3, σ = [some (.int n), some (.ref l), some (.ref an), v3] ∧ Same H H' ∧ H' an = some (.lst ((n :: (qs.take i).flatMap Kqk1.fraction).map V.int)))
      ⟨none, rfl, s2, g2⟩ (fun i σ H' _ ⟨_, _, s, _⟩ => SqT.of (s _ _ hl)) ?_ ?_⟩
    · rintro i x σ H' H'' hi ⟨v3, rfl, s3, ha⟩ ⟨rfl, hx⟩
      obtain ⟨a, zs, rfl, h1, h2, h3, h4⟩ := wf_step (n := n) han hf sm hx s3
      exact ⟨_, rfl, .inl ⟨rfl, _, .inl (.inl ha)⟩, _, rfl, an, a, _, zs, rfl, rfl, ha, h1, h2, _, rfl, h3, h4⟩
    · rintro σ H' ⟨v3, rfl, s3, ha⟩
      rw [hf.length, List.take_length] at ha
      exact ⟨_, rfl, k H' an s3 han ha⟩
theorem ok_op8 {f : Addr} {fd : FuncData} (F : Fun K "forecast" "forecast" sOp8 f fd) (T : RTxt K mg C) (TP : PTxt K mg CP) (G : MetOk (L2.CX P w) P w K mg base 6 C "forecast" ["self", "count"] (spRFore C CP CO)) (GF : DefOk CX0 P w K mg base 1 "with_fractions" ["number", "fractions"] (spWf HO.lst)) : FnOk P w K mg base (L2.CX P w) 8 f fd ["reservoir", "arguments"] (spOp C CP (EC CC CO CD CN CF CB) 8) := by
  have sc : FnScope ["reservoir", "arguments", "parcels"] ["reservoir", "arguments"] (defScope sOp8) := ⟨rfl, rfl, rfl, by decide +kernel, rfl, by decide +kernel, by decide +kernel⟩
  refine F.okX sc (fun vs H Q E h => ?_) (fun cdv A outer s H vs Q E hr h => ⟨_, pss_cons (ps_set (i := 2) sc.nd rfl (Or.inl rfl) (pe_m G T.cl hr (by decide) (passE (takes_of rfl rfl rfl rfl)) (pv 0) (pa_cons (pe_ix ix_list (pv 1) pe_int (fun _ _ => rfl)) pa_nil)))
    (pss_one (ps_ret (pe_d GF hr (by decide) rfl pass0 (pa_cons (pe_callB call_len_seq (by rfl) TP.gN PySem.boot_len (pa_cons (pv 2) pa_nil)) (pa_cons (pv 2) pa_nil))))), ?_⟩)
  · obtain ⟨r, fa, R, al, xs, q, m, rfl, _⟩ := h
    rfl
  · obtain ⟨r, fa, R, al, xs, q, m, rfl, hal, h0, hq, hR, gR, hm, ke, kq⟩ := h
    obtain ⟨b, rfl, rfl⟩ := req8 hq
    obtain ⟨v, rfl⟩ := nat_of (h0 b (by simp))
    rw [Int.toNat_natCast] at ke kq
    have st : Kqk1.step (some R) (.forecast v) = (some R, if 20 < v then Kqk1.Result.value (-22) else .values v ((Kqk1.forecast v R).flatMap Kqk1.fraction)) := rfl
    obtain ⟨dx, p, ii, a', b', n, sv, o⟩ := res_obj hR
    refine ⟨_, rfl, r, dx, _, rfl, o, rF_none (by decide +kernel), _, rfl, al, _, 0, _, rfl, rfl, SqL.of hal, one_at0, r, fa, R, v, rfl, hR, fun c => ?_, fun c1 => ⟨run_fit gR c1, fun H1 l ws s1 hl h1 fr1 => ?_⟩⟩
    · exact ke _ _ ec22 (by rw [st, if_pos c]) H (Same.refl H)
    · have lo : (outL R.injection R.cells v).length = v := by
        unfold outL
        rw [List.length_map, List.length_range]
      have lw : ws.length = v := by rw [fr1.length, lo]
      refine ⟨_, rfl, l, ws, rfl, .inl (SqL.of h1), _, rfl, l, (ws.length : Int), ws, _, rfl, h1, fr1, by rw [lo]; omega, fun H2 p2 s2 hp2 h2 => ?_⟩
      refine kq R (.values v ((Kqk1.forecast v R).flatMap Kqk1.fraction)) (by rw [st, if_neg (by omega)]) H2 fa p2 (Keep.of_same (s1.trans s2)) (hR.same (s1.trans s2)) (fun x hx => .inl hx) (.inr (s1.free hp2)) ?_
      rw [h2, fore_is, lw]
      rfl
theorem cut13 {x y z : V} : cutV [x, y, z] (some 1) none = [y, z] := rfl
theorem ok_op9 {f : Addr} {fd : FuncData} (F : Fun K "get_cell" "get_cell" sOp9 f fd) (T : RTxt K mg C) (G : MetOk (L2.CX P w) P w K mg base 4 C "get_cell" ["self", "cell"] (spRGet C CP CC)) (GF : DefOk CX0 P w K mg base 1 "with_fractions" ["number", "fractions"] (spWf HO.tup)) : FnOk P w K mg base (L2.CX P w) 8 f fd ["reservoir", "arguments"] (spOp C CP (EC CC CO CD CN CF CB) 9) := by
  have sc : FnScope ["reservoir", "arguments", "cell"] ["reservoir", "arguments"] (defScope sOp9) := ⟨rfl, rfl, rfl, by decide +kernel, rfl, by decide +kernel, by decide +kernel⟩
  refine F.okX sc (fun vs H Q E h => ?_) (fun cdv A outer s H vs Q E hr h => ⟨_, pss_cons (ps_set (i := 2) sc.nd rfl (Or.inl rfl) (pe_m G T.cl hr (by decide) (passE (takes_of rfl rfl rfl rfl)) (pv 0) (pa_cons (pe_ix ix_list (pv 1) pe_int (fun _ _ => rfl)) pa_nil)))
    (pss_one (ps_ret (pe_d GF hr (by decide) rfl pass0 (pa_cons (pe_ix ix_tup (pv 2) pe_int (fun _ _ => rfl)) (pa_cons (pe_slice sl_tup (pv 2) (po_some pe_int) po_none) pa_nil))))), ?_⟩)
  · obtain ⟨r, fa, R, al, xs, q, m, rfl, _⟩ := h
    rfl
  · obtain ⟨r, fa, R, al, xs, q, m, rfl, hal, h0, hq, hR, gR, hm, ke, kq⟩ := h
    obtain ⟨b, rfl, rfl⟩ := req9 hq
    obtain ⟨i, rfl⟩ := nat_of (h0 b (by simp))
    rw [Int.toNat_natCast] at ke kq
    have st : Kqk1.step (some R) (.getCell i) = (some R, if R.cells.length ≤ i then Kqk1.Result.value (-2) else .values (Kqk1.cell R i).rockCapacity (Kqk1.fraction (Kqk1.cell R i).rock ++ Kqk1.fraction (Kqk1.cell R i).water)) := rfl
    obtain ⟨dx, p, ii, a', b', n, sv, o⟩ := res_obj hR
    refine ⟨_, rfl, r, dx, _, rfl, o, rF_none (by decide +kernel), _, rfl, al, _, 0, _, rfl, rfl, SqL.of hal, one_at0, r, fa, R, i, rfl, hR, fun c => ?_, fun c1 H1 t a b s1 ht f1 f2 => ?_⟩
    · exact ke _ _ ec2 (by rw [st, if_pos c]) H (Same.refl H)
    · have hT : SqT K H1 t [.int ((Kqk1.cell R i).rockCapacity : Int), .ref a, .ref b] := SqT.of ht
      have hc0 : atI [V.int ((Kqk1.cell R i).rockCapacity : Int), .ref a, .ref b] 0 = some (.int ((Kqk1.cell R i).rockCapacity : Int)) := atI_nat (j := 0) rfl
      refine ⟨_, rfl, t, _, 0, _, rfl, rfl, hT, hc0, _, rfl, _, rfl, t, _, rfl, hT, by show ¬ (HT.sIx 3 0 (some 1) = 0 ∧ HT.sIx 3 3 none = 3); decide, fun t2 ht2 => ?_⟩
      rw [cut13]
      have s2 : Same H1 (upd H1 t2 (.tup [.ref a, .ref b])) := same_upd ht2
      refine ⟨t2, ((Kqk1.cell R i).rockCapacity : Int), [.ref a, .ref b], [(Kqk1.cell R i).rock, (Kqk1.cell R i).water], rfl, upd_same, ⟨⟨a, rfl, f1.same s2⟩, ⟨b, rfl, f2.same s2⟩, trivial⟩, by show 2 ≤ 1000; decide, fun H3 p3 s3 hp3 h3 => ?_⟩
      have s03 := (s1.trans s2).trans s3
      refine kq R (.values (Kqk1.cell R i).rockCapacity (Kqk1.fraction (Kqk1.cell R i).rock ++ Kqk1.fraction (Kqk1.cell R i).water)) (by rw [st, if_neg (by omega)]) H3 fa p3 (Keep.of_same s03) (hR.same s03) (fun x hx => .inl hx) (.inr ((s1.trans s2).free hp3)) h3
theorem ok_op11 {f : Addr} {fd : FuncData} (F : Fun K "balance" "balance" sOp11 f fd) (T : RTxt K mg C) (G : MetOk CX0 P w K mg base 1 C "balance" ["self"] (spRBal C CP)) (GF : DefOk CX0 P w K mg base 1 "with_fractions" ["number", "fractions"] (spWf HO.tup)) : FnOk P w K mg base (L2.CX P w) 8 f fd ["reservoir", "arguments"] (spOp C CP (EC CC CO CD CN CF CB) 11) := by
  have sc : FnScope ["reservoir", "arguments", "sums"] ["reservoir", "arguments"] (defScope sOp11) := ⟨rfl, rfl, rfl, by decide +kernel, rfl, by decide +kernel, by decide +kernel⟩
  refine F.okX sc (fun vs H Q E h => ?_) (fun cdv A outer s H vs Q E hr h => ⟨_, pss_cons (ps_set (i := 2) sc.nd rfl (Or.inl rfl) (pe_m0' G T.cl hr (by decide) pass0 (pv 0)))
    (pss_one (ps_ret (pe_d GF hr (by decide) rfl pass0 (pa_cons (pe_ix ix_tup (pv 2) pe_int (fun _ _ => rfl)) (pa_cons (pe_slice sl_tup (pv 2) (po_some pe_int) po_none) pa_nil))))), ?_⟩)
  · obtain ⟨r, fa, R, al, xs, q, m, rfl, _⟩ := h
    rfl
  · obtain ⟨r, fa, R, al, xs, q, m, rfl, hal, h0, hq, hR, gR, hm, ke, kq⟩ := h
    obtain ⟨rfl, rfl⟩ := req11 hq
    obtain ⟨dx, p, ii, a', b', n, sv, o⟩ := res_obj hR
    refine ⟨_, rfl, r, dx, _, rfl, o, rF_none (by decide +kernel), r, fa, R, rfl, hR, fun H1 t a b s1 ht f1 f2 => ?_⟩
    have hT : SqT K H1 t [.int (R.producedCount : Int), .ref a, .ref b] := SqT.of ht
    have hc0 : atI [V.int (R.producedCount : Int), .ref a, .ref b] 0 = some (.int (R.producedCount : Int)) := atI_nat (j := 0) rfl
    refine ⟨_, rfl, t, _, 0, _, rfl, rfl, hT, hc0, _, rfl, _, rfl, t, _, rfl, hT, by show ¬ (HT.sIx 3 0 (some 1) = 0 ∧ HT.sIx 3 3 none = 3); decide, fun t2 ht2 => ?_⟩
    rw [cut13]
    have s2 : Same H1 (upd H1 t2 (.tup [.ref a, .ref b])) := same_upd ht2
    refine ⟨t2, (R.producedCount : Int), [.ref a, .ref b], [R.injectedSum, R.producedSum], rfl, upd_same, ⟨⟨a, rfl, f1.same s2⟩, ⟨b, rfl, f2.same s2⟩, trivial⟩, by show 2 ≤ 1000; decide, fun H3 p3 s3 hp3 h3 => ?_⟩
    have s03 := (s1.trans s2).trans s3
    exact kq R (.values R.producedCount (Kqk1.fraction R.injectedSum ++ Kqk1.fraction R.producedSum)) rfl H3 fa p3 (Keep.of_same s03) (hR.same s03) (fun x hx => .inl hx) (.inr ((s1.trans s2).free hp3)) h3
theorem ok_op12 {f : Addr} {fd : FuncData} (F : Fun K "hottest" "hottest" sOp12 f fd) (T : RTxt K mg C) (TP : PTxt K mg CP) (G : MetOk CX0 P w K mg base 3 C "hottest" ["self"] (spRHot C CP)) : FnOk P w K mg base (L2.CX P w) 8 f fd ["reservoir", "arguments"] (spOp C CP (EC CC CO CD CN CF CB) 12) := by
  refine F.okX (N := ["reservoir", "arguments"]) ⟨rfl, rfl, rfl, by decide +kernel, rfl, by decide +kernel, by decide +kernel⟩ (fun vs H Q E h => ?_) (fun cdv A outer s H vs Q E hr h => ⟨_, pss_one (ps_ret (pe_op op_cat (pe_lst (pa_cons pe_int pa_nil)) (pe_callTy call_list_of rfl TP.gL boot_list (pa_cons (pe_m0' G T.cl hr (by decide) pass0 (pv 0)) pa_nil)))), ?_⟩)
  · obtain ⟨r, fa, R, al, xs, q, m, rfl, _⟩ := h
    rfl
  · obtain ⟨r, fa, R, al, xs, q, m, rfl, hal, h0, hq, hR, gR, hm, ke, kq⟩ := h
    obtain ⟨rfl, rfl⟩ := req12 hq
    refine ⟨by show 1 ≤ sizeLine; decide, fun l0 hl0 => ?_⟩
    have s0 : Same H (upd H l0 (.lst [.int 0])) := same_upd hl0
    have g0 : (upd H l0 (.lst [.int 0])) l0 = some (.lst [.int 0]) := upd_same
    generalize upd H l0 (.lst [.int 0]) = H0 at s0 g0 ⊢
    have r0 := hR.same s0
    obtain ⟨dx, p, ii, a', b', n, sv, o⟩ := res_obj r0
    refine ⟨_, rfl, r, dx, _, rfl, o, rF_none (by decide +kernel), r, fa, R, rfl, r0, cells_fit gR.l, gR.l.ne, by have := gR.l.l8; omega, fun H1 a1 m1 s1 f1 hm1 hle => ?_⟩
    refine cat_fr (s1 _ _ g0) (by decide) f1 fun H2 l s2 hl h2 => ?_
    have s02 := (s0.trans s1).trans s2
    refine kq R (Kqk1.fractions [Kqk1.greatest (Kqk1.temperatures R.cells)]) rfl H2 fa l (Keep.of_same s02) (hR.same s02) (fun x hx => .inl hx) (.inr ((s0.trans s1).free hl)) ?_
    rw [greatest_is gR.l.ne hm1 hle]
    exact h2
theorem ok_op13 {f : Addr} {fd : FuncData} (F : Fun K "coldest" "coldest" sOp13 f fd) (T : RTxt K mg C) (TP : PTxt K mg CP) (G : MetOk CX0 P w K mg base 3 C "coldest" ["self"] (spRCold C CP)) : FnOk P w K mg base (L2.CX P w) 8 f fd ["reservoir", "arguments"] (spOp C CP (EC CC CO CD CN CF CB) 13) := by
  refine F.okX (N := ["reservoir", "arguments"]) ⟨rfl, rfl, rfl, by decide +kernel, rfl, by decide +kernel, by decide +kernel⟩ (fun vs H Q E h => ?_) (fun cdv A outer s H vs Q E hr h => ⟨_, pss_one (ps_ret (pe_op op_cat (pe_lst (pa_cons pe_int pa_nil)) (pe_callTy call_list_of rfl TP.gL boot_list (pa_cons (pe_m0' G T.cl hr (by decide) pass0 (pv 0)) pa_nil)))), ?_⟩)
  · obtain ⟨r, fa, R, al, xs, q, m, rfl, _⟩ := h
    rfl
  · obtain ⟨r, fa, R, al, xs, q, m, rfl, hal, h0, hq, hR, gR, hm, ke, kq⟩ := h
    obtain ⟨rfl, rfl⟩ := req13 hq
    refine ⟨by show 1 ≤ sizeLine; decide, fun l0 hl0 => ?_⟩
    have s0 : Same H (upd H l0 (.lst [.int 0])) := same_upd hl0
    have g0 : (upd H l0 (.lst [.int 0])) l0 = some (.lst [.int 0]) := upd_same
    generalize upd H l0 (.lst [.int 0]) = H0 at s0 g0 ⊢
    have r0 := hR.same s0
    obtain ⟨dx, p, ii, a', b', n, sv, o⟩ := res_obj r0
    refine ⟨_, rfl, r, dx, _, rfl, o, rF_none (by decide +kernel), r, fa, R, rfl, r0, cells_fit gR.l, gR.l.ne, by have := gR.l.l8; omega, fun H1 a1 m1 s1 f1 hm1 hle => ?_⟩
    refine cat_fr (s1 _ _ g0) (by decide) f1 fun H2 l s2 hl h2 => ?_
    have s02 := (s0.trans s1).trans s2
    refine kq R (Kqk1.fractions [Kqk1.smallest (Kqk1.temperatures R.cells)]) rfl H2 fa l (Keep.of_same s02) (hR.same s02) (fun x hx => .inl hx) (.inr ((s0.trans s1).free hl)) ?_
    rw [smallest_is gR.l.ne hm1 hle]
    exact h2
end
end CF
namespace CF
open PySem PySem.Spec PyProof.Rows L2
open PySem.W (Codec)
open Kqk1Neutral (requestOf fields)
abbrev sOp14 : Stmt := top 51
abbrev sOp15 : Stmt := top 52
abbrev sOp16 : Stmt := top 53
abbrev sOp17 : Stmt := top 54
abbrev sOp18 : Stmt := top 55
abbrev sOp19 : Stmt := top 56
abbrev sOp20 : Stmt := top 57
theorem req14 {xs : List Int} {q : Kqk1.Request} (h : requestOf [14 :: xs] = some q) : ∃ a, xs = [a] ∧ q = .breakthrough a.toNat := by
  rcases xs with _ | ⟨a, _ | ⟨b, r⟩⟩
  · cases (show none = some q from h)
  · exact ⟨a, rfl, (Option.some.inj h).symm⟩
  · cases (show none = some q from h)
theorem req15 {xs : List Int} {q : Kqk1.Request} (h : requestOf [15 :: xs] = some q) : xs = [] ∧ q = .saveProfile := by
  rcases xs with _ | ⟨a, r⟩
  · exact ⟨rfl, (Option.some.inj h).symm⟩
  · cases (show none = some q from h)
theorem req16 {xs : List Int} {q : Kqk1.Request} (h : requestOf [16 :: xs] = some q) : xs = [] ∧ q = .compareWithSaved := by
  rcases xs with _ | ⟨a, r⟩
  · exact ⟨rfl, (Option.some.inj h).symm⟩
  · cases (show none = some q from h)
theorem req17 {xs : List Int} {q : Kqk1.Request} (h : requestOf [17 :: xs] = some q) : xs = [] ∧ q = .averageWithSaved := by
  rcases xs with _ | ⟨a, r⟩
  · exact ⟨rfl, (Option.some.inj h).symm⟩
  · cases (show none = some q from h)
theorem req18 {xs : List Int} {q : Kqk1.Request} (h : requestOf [18 :: xs] = some q) : xs = [] ∧ q = .reverse := by
  rcases xs with _ | ⟨a, r⟩
  · exact ⟨rfl, (Option.some.inj h).symm⟩
  · cases (show none = some q from h)
theorem req19 {xs : List Int} {q : Kqk1.Request} (h : requestOf [19 :: xs] = some q) : ∃ a, xs = [a] ∧ q = .excessHeat a.toNat := by
  rcases xs with _ | ⟨a, _ | ⟨b, r⟩⟩
  · cases (show none = some q from h)
  · exact ⟨a, rfl, (Option.some.inj h).symm⟩
  · cases (show none = some q from h)
theorem req20 {xs : List Int} {q : Kqk1.Request} (h : requestOf [20 :: xs] = some q) : xs = [] ∧ q = .summary := by
  rcases xs with _ | ⟨a, r⟩
  · exact ⟨rfl, (Option.some.inj h).symm⟩
  · cases (show none = some q from h)
theorem cap_bound : ∀ cells : List Kqk1.Cell, (∀ c ∈ cells, GoodC c) → Kqk1.totalCapacity cells ≤ 21 * cells.length
  | [], _ => Nat.le_refl _
  | c :: r, h => by
    have ih := cap_bound r fun d hd => h d (by simp [hd])
    have g := (h c (by simp)).c2
    have e : Kqk1.totalCapacity (c :: r) = (c.rockCapacity + 1) + Kqk1.totalCapacity r := by
      show (r.map fun c => c.rockCapacity + 1).foldl (fun x y => x + y) (0 + (c.rockCapacity + 1)) = _
      rw [foldl_addN, Nat.zero_add]
      rfl
    rw [e, List.length_cons]
    omega
theorem cap_small {cells : List Kqk1.Cell} (h : GoodL cells) : Kqk1.totalCapacity cells ≤ 168 := by
  have a := cap_bound cells h.g
  have b := h.l8
  omega
theorem heat_one {cells : List Kqk1.Cell} (h : GoodL cells) : Fit 4400 (Kqk1.totalHeat cells) := by
  have f := (heat_fit h).2 cells.length
  rw [List.take_length] at f
  rw [heat_is]
  exact f
theorem fit_natB {t : Nat} (h : t < 2 ^ 60) : Fit 4400 ((t : Rat)) := by
  refine ⟨?_, ?_⟩
  · show ((t : Int)).natAbs < _
    exact Nat.lt_of_lt_of_le (by omega : ((t : Int)).natAbs < 2 ^ 60) (Nat.pow_le_pow_right (by decide) (by decide))
  · show 1 < _
    exact Nat.one_lt_two_pow (by decide)
structure GTxt (K : PySem.W.Frag) (mg : Str → Option Value) : Prop where
  gI : mg "int" = none
section
variable {P : Program} {w : World} {K : PySem.W.Frag} {mg : Str → Option Value} {base : Heap} {C CP CO CC CD CN CF CB : Addr}
theorem ok_op14 {f : Addr} {fd : FuncData} (F : Fun K "breakthrough" "breakthrough" sOp14 f fd) (T : RTxt K mg C) (G : MetOk (L2.CX P w) P w K mg base 7 C "breakthrough" ["self", "temperature"] (spRBrk C CP CB)) : FnOk P w K mg base (L2.CX P w) 8 f fd ["reservoir", "arguments"] (spOp C CP (EC CC CO CD CN CF CB) 14) := by
  refine F.okX (N := ["reservoir", "arguments"]) ⟨rfl, rfl, rfl, by decide +kernel, rfl, by decide +kernel, by decide +kernel⟩ (fun vs H Q E h => ?_) (fun cdv A outer s H vs Q E hr h => ⟨_, pss_one (ps_ret (pe_lst (pa_cons (pe_m G T.cl hr (by decide) (passE (takes_of rfl rfl rfl rfl)) (pv 0) (pa_cons (pe_ix ix_list (pv 1) pe_int (fun _ _ => rfl)) pa_nil)) pa_nil))), ?_⟩)
  · obtain ⟨r, fa, R, al, xs, q, m, rfl, _⟩ := h
    rfl
  · obtain ⟨r, fa, R, al, xs, q, m, rfl, hal, h0, hq, hR, gR, hm, ke, kq⟩ := h
    obtain ⟨b, rfl, rfl⟩ := req14 hq
    have hb := h0 b (by simp)
    obtain ⟨v, rfl⟩ := nat_of hb
    rw [Int.toNat_natCast] at ke kq
    obtain ⟨dx, p, ii, a', b', n, sv, o⟩ := res_obj hR
    have st : Kqk1.step (some R) (.breakthrough v) = (some R, match (outL R.injection R.cells 20).findIdx? (colder v) with
      | none => Kqk1.Result.value (-33)
      | some k => .value k) := by
      show (some R, match (Kqk1.forecast 20 R).findIdx? fun q => decide (q < (v : Rat)) with
        | none => Kqk1.Result.value (-33)
        | some k => .value k) = _
      rw [fore_is]
      rfl
    refine ⟨_, rfl, r, dx, _, rfl, o, rF_none (by decide +kernel), _, rfl, al, _, 0, _, rfl, rfl, SqL.of hal, one_at0, r, fa, R, v, rfl, hR, run_fit gR (by decide), by omega, fun k e H1 s1 => ?_, fun e H1 s1 => ?_⟩
    · refine ⟨by show 1 ≤ sizeLine; decide, fun l hl => ?_⟩
      have s2 := s1.trans (same_upd (o := .lst [.int (k : Int)]) hl)
      exact kq R (.value k) (by rw [st, e]) _ fa l (Keep.of_same s2) (hR.same s2) (fun x hx => .inl hx) (.inr (s1.free hl)) upd_same
    · exact ke _ _ ec33 (by rw [st, e]) H1 s1
theorem ok_op15 {f : Addr} {fd : FuncData} (F : Fun K "save_profile" "save_profile" sOp15 f fd) (T : RTxt K mg C) (G : MetOk CX0 P w K mg base 4 C "save_profile" ["self"] (spRSave C CP)) (GC : MetOk CX0 P w K mg base 2 C "cell_count" ["self"] (spRCount C CP)) : FnOk P w K mg base (L2.CX P w) 8 f fd ["reservoir", "arguments"] (spOp C CP (EC CC CO CD CN CF CB) 15) := by
  refine F.okX (N := ["reservoir", "arguments"]) ⟨rfl, rfl, rfl, by decide +kernel, rfl, by decide +kernel, by decide +kernel⟩ (fun vs H Q E h => ?_) (fun cdv A outer s H vs Q E hr h => ⟨_, pss_cons (ps_expr (pe_m0' G T.cl hr (by decide) pass0 (pv 0))) (pss_one (ps_ret (pe_lst (pa_cons (pe_m0' GC T.cl hr (by decide) pass0 (pv 0)) pa_nil)))), ?_⟩)
  · obtain ⟨r, fa, R, al, xs, q, m, rfl, _⟩ := h
    rfl
  · obtain ⟨r, fa, R, al, xs, q, m, rfl, hal, h0, hq, hR, gR, hm, ke, kq⟩ := h
    obtain ⟨rfl, rfl⟩ := req15 hq
    obtain ⟨dx, p, ii, a', b', n, sv, o⟩ := res_obj hR
    refine ⟨_, rfl, r, dx, _, rfl, o, rF_none (by decide +kernel), r, fa, R, rfl, hR, fun H1 fa1 k1 r1 sub1 => ?_⟩
    obtain ⟨dx1, p1, ii1, a1, b1, n1, sv1, o1⟩ := res_obj r1
    refine ⟨_, rfl, r, dx1, _, rfl, o1, rF_none (by decide +kernel), r, fa1, _, rfl, r1, by show 1 ≤ sizeLine; decide, fun l hl => ?_⟩
    exact kq _ _ rfl _ fa1 l (keep_list k1 hl) (res_list (fa := fa) (H := H) r1 hl) sub1 (new_or k1 hl) upd_same
theorem ok_op18 {f : Addr} {fd : FuncData} (F : Fun K "reverse" "reverse" sOp18 f fd) (T : RTxt K mg C) (G : MetOk CX0 P w K mg base 4 C "reverse" ["self"] (spRRev C CP)) (GC : MetOk CX0 P w K mg base 2 C "cell_count" ["self"] (spRCount C CP)) : FnOk P w K mg base (L2.CX P w) 8 f fd ["reservoir", "arguments"] (spOp C CP (EC CC CO CD CN CF CB) 18) := by
  refine F.okX (N := ["reservoir", "arguments"]) ⟨rfl, rfl, rfl, by decide +kernel, rfl, by decide +kernel, by decide +kernel⟩ (fun vs H Q E h => ?_) (fun cdv A outer s H vs Q E hr h => ⟨_, pss_cons (ps_expr (pe_m0' G T.cl hr (by decide) pass0 (pv 0))) (pss_one (ps_ret (pe_lst (pa_cons (pe_m0' GC T.cl hr (by decide) pass0 (pv 0)) pa_nil)))), ?_⟩)
  · obtain ⟨r, fa, R, al, xs, q, m, rfl, _⟩ := h
    rfl
  · obtain ⟨r, fa, R, al, xs, q, m, rfl, hal, h0, hq, hR, gR, hm, ke, kq⟩ := h
    obtain ⟨rfl, rfl⟩ := req18 hq
    obtain ⟨dx, p, ii, a', b', n, sv, o⟩ := res_obj hR
    refine ⟨_, rfl, r, dx, _, rfl, o, rF_none (by decide +kernel), r, fa, R, rfl, hR, fun H1 fa1 k1 r1 sub1 => ?_⟩
    obtain ⟨dx1, p1, ii1, a1, b1, n1, sv1, o1⟩ := res_obj r1
    refine ⟨_, rfl, r, dx1, _, rfl, o1, rF_none (by decide +kernel), r, fa1, _, rfl, r1, by show 1 ≤ sizeLine; decide, fun l hl => ?_⟩
    refine kq { R with cells := R.cells.reverse } (.value R.cells.length) rfl _ fa1 l (keep_list k1 hl) (res_list (fa := fa) (H := H) r1 hl) sub1 (new_or k1 hl) ?_
    rw [upd_same]
    show some (HO.lst [V.int (((R.cells.reverse).length : Nat) : Int)]) = _
    rw [List.length_reverse]
    rfl
theorem ok_op16 {f : Addr} {fd : FuncData} (F : Fun K "compare_with_saved" "compare_with_saved" sOp16 f fd) (T : RTxt K mg C) (TG : GTxt K mg) (G : MetOk (L2.CX P w) P w K mg base 3 C "compare_with_saved" ["self"] (spRCmp C CP CN)) : FnOk P w K mg base (L2.CX P w) 8 f fd ["reservoir", "arguments"] (spOp C CP (EC CC CO CD CN CF CB) 16) := by
  have sc : FnScope ["reservoir", "arguments", "result"] ["reservoir", "arguments"] (defScope sOp16) := ⟨rfl, rfl, rfl, by decide +kernel, rfl, by decide +kernel, by decide +kernel⟩
  refine F.okX sc (fun vs H Q E h => ?_) (fun cdv A outer s H vs Q E hr h => ⟨_, pss_one (ps_ret (pe_lc (own := [("result", 2)]) (g := gName 2) (tt := tYes) rfl sc.nd (pi_tup (pe_m0' G T.cl hr (by decide) (passE (takes_of rfl rfl rfl rfl)) (pv 0)))
      (blkOk_by (own := [("result", 2)]) (N := ["reservoir", "arguments", "result"]) (sc := defScope sOp16) (by decide +kernel))
      (fun _ _ _ _ _ => by exact pg_name (i := 2) sc.nd rfl (Or.inl rfl))
      (fun _ _ _ _ _ => pts_nil)
      (fun _ _ _ _ _ => pe_callTy call_int1 (by rfl) TG.gI (by decide +kernel) (pa_cons (pv 2) pa_nil)))), ?_⟩)
  · obtain ⟨r, fa, R, al, xs, q, m, rfl, _⟩ := h
    rfl
  · obtain ⟨r, fa, R, al, xs, q, m, rfl, hal, h0, hq, hR, gR, hm, ke, kq⟩ := h
    obtain ⟨rfl, rfl⟩ := req16 hq
    obtain ⟨dx, p, ii, a', b', n, sv, o⟩ := res_obj hR
    have st : Kqk1.step (some R) .compareWithSaved = (some R, match R.saved with
      | none => Kqk1.Result.value (-6)
      | some l => .values (if Kqk1.isNowhereColder R.cells l then 1 else 0) [if Kqk1.isNowhereColder l R.cells then 1 else 0]) := rfl
    refine ⟨_, rfl, r, dx, _, rfl, o, rF_none (by decide +kernel), r, fa, R, rfl, hR, fun e => ?_, fun l e => ?_⟩
    · exact ke _ _ ec6 (by rw [st, e]) H (Same.refl H)
    · have gl := gR.sv l e
      refine ⟨cells_fit gR.l, cells_fit gl, by have := gR.l.l8; omega, by have := gl.l8; omega, fun H1 t s1 ht => ?_⟩
      have st2 : Kqk1.step (some R) .compareWithSaved = (some R, .values (if Kqk1.isNowhereColder R.cells l then 1 else 0) [if Kqk1.isNowhereColder l R.cells then 1 else 0]) := by rw [st, e]
      generalize Kqk1.isNowhereColder R.cells l = c1 at ht st2
      generalize Kqk1.isNowhereColder l R.cells = c2 at ht st2
      refine ⟨t, rfl, ⟨_, SqT.of ht⟩, fun D hD => ?_⟩
      have sD : Same H1 (upd H1 D (.lst [])) := same_upd hD
      refine lc_it (walk_tup (K := K) (a := t) (xs := [V.bl c1, V.bl c2])) (fun i H' => Same H1 H' ∧ H' D = some (.lst (([if c1 then 1 else 0, if c2 then 1 else 0].take i).map V.int)))
        ⟨sD, upd_same⟩ (fun i H' _ ⟨s, _⟩ => SqT.of (s _ _ ht)) ?_ ?_
      · rintro i x H2 H3 hi ⟨s2, hd⟩ ⟨rfl, hx⟩
        have kp : ∀ zs, Same H1 (upd H3 D (.lst zs)) := fun zs b o e => by
          rw [upd_ne (ne_of_none e hD)]
          exact s2 _ _ e
        have hi2 : i = 0 ∨ i = 1 := by
          have : i < 2 := hi
          omega
        rcases hi2 with rfl | rfl
        · cases hx
          refine ⟨rfl, yes2 ⟨_, rfl, .inr ⟨c1, rfl, [], hd, by show 0 < 16777216; decide, kp _, ?_⟩⟩⟩
          rw [upd_same]
          cases c1 <;> rfl
        · cases hx
          refine ⟨rfl, yes2 ⟨_, rfl, .inr ⟨c2, rfl, [.int (if c1 then 1 else 0)], hd, by show 1 < 16777216; decide, kp _, ?_⟩⟩⟩
          rw [upd_same]
          cases c2 <;> rfl
      · rintro H2 ⟨s2, hd⟩
        exact kq R _ st2 H2 fa D (Keep.of_same (s1.trans s2)) (hR.same (s1.trans s2)) (fun x hx => .inl hx) (.inr (s1.free hD)) hd
theorem ok_op17 {f : Addr} {fd : FuncData} (F : Fun K "average_with_saved" "average_with_saved" sOp17 f fd) (T : RTxt K mg C) (G : MetOk (L2.CX P w) P w K mg base 7 C "average_with_saved" ["self"] (spRAvg C CP CN CF CD)) (GC : MetOk CX0 P w K mg base 2 C "cell_count" ["self"] (spRCount C CP)) : FnOk P w K mg base (L2.CX P w) 8 f fd ["reservoir", "arguments"] (spOp C CP (EC CC CO CD CN CF CB) 17) := by
  refine F.okX (N := ["reservoir", "arguments"]) ⟨rfl, rfl, rfl, by decide +kernel, rfl, by decide +kernel, by decide +kernel⟩ (fun vs H Q E h => ?_) (fun cdv A outer s H vs Q E hr h => ⟨_, pss_cons (ps_expr (pe_m0' G T.cl hr (by decide) (passE (takes_of rfl rfl rfl rfl)) (pv 0))) (pss_one (ps_ret (pe_lst (pa_cons (pe_m0' GC T.cl hr (by decide) pass0 (pv 0)) pa_nil)))), ?_⟩)
  · obtain ⟨r, fa, R, al, xs, q, m, rfl, _⟩ := h
    rfl
  · obtain ⟨r, fa, R, al, xs, q, m, rfl, hal, h0, hq, hR, gR, hm, ke, kq⟩ := h
    obtain ⟨rfl, rfl⟩ := req17 hq
    obtain ⟨dx, p, ii, a', b', n, sv, o⟩ := res_obj hR
    have st : Kqk1.step (some R) .averageWithSaved = match R.saved with
      | none => (some R, Kqk1.Result.value (-6))
      | some l => if Kqk1.haveEqualCapacities l R.cells = false then (some R, .value (-34)) else Kqk1.commit R { R with cells := Kqk1.mean R.cells l } (.value R.cells.length) := rfl
    refine ⟨_, rfl, r, dx, _, rfl, o, rF_none (by decide +kernel), r, fa, R, rfl, hR, fun e => ?_, fun l e => ?_⟩
    · exact ke _ _ ec6 (by rw [st, e]) H (Same.refl H)
    · have gl := gR.sv l e
      have st2 : Kqk1.step (some R) .averageWithSaved = if Kqk1.haveEqualCapacities l R.cells = false then (some R, Kqk1.Result.value (-34)) else Kqk1.commit R { R with cells := Kqk1.mean R.cells l } (.value R.cells.length) := by rw [st, e]
      refine ⟨cells_fit gR.l, cells_fit gl, by have := gR.l.l8; omega, fun hc => ?_, fun hc => ?_⟩
      · refine ke _ _ ec34 ?_ H (Same.refl H)
        rw [st2, if_pos]
        rw [caps_eq]
        exact decide_eq_false fun z => hc z.symm
      · have hb : ¬ Kqk1.haveEqualCapacities l R.cells = false := by
          rw [caps_eq, decide_eq_true hc.symm]
          decide
        have sm : smallR { R with cells := Kqk1.mean R.cells l } = (temps (Kqk1.mean R.cells l)).all small := by
          rw [smallR_split]
          have e1 : small R.injectedSum = true := decide_eq_true gR.sd
          have e2 : small R.producedSum = true := decide_eq_true gR.pd
          show ((temps (Kqk1.mean R.cells l)).all small && (small R.injectedSum && small R.producedSum)) = _
          rw [e1, e2, Bool.and_self, Bool.and_true]
        have st3 : Kqk1.step (some R) .averageWithSaved = if (temps (Kqk1.mean R.cells l)).all small = true then (some { R with cells := Kqk1.mean R.cells l }, Kqk1.Result.value R.cells.length) else (some R, Kqk1.Result.value (-75)) := by
          rw [st2, if_neg hb]
          unfold Kqk1.commit
          rw [dens_is, sm]
        refine ⟨fun c H1 fa1 k1 r1 sub1 => ?_, fun c H1 s1 => ?_⟩
        · obtain ⟨dx1, p1, ii1, a1, b1, n1, sv1, o1⟩ := res_obj r1
          refine ⟨_, rfl, r, dx1, _, rfl, o1, rF_none (by decide +kernel), r, fa1, _, rfl, r1, by show 1 ≤ sizeLine; decide, fun l' hl => ?_⟩
          refine kq _ _ (by rw [st3, if_pos c]) _ fa1 l' (keep_list k1 hl) (res_list (fa := fa) (H := H) r1 hl) sub1 (new_or k1 hl) ?_
          rw [upd_same]
          have hlen := caps_len hc
          have lm : (Kqk1.mean R.cells l).length = R.cells.length := by
            unfold Kqk1.mean
            rw [List.length_map, List.length_zip]
            omega
          show some (HO.lst [V.int (((Kqk1.mean R.cells l).length : Nat) : Int)]) = _
          rw [lm]
          rfl
        · exact ke _ _ ec75 (by rw [st3, if_neg (by rw [c]; decide)]) H1 s1
theorem ok_op19 {f : Addr} {fd : FuncData} (F : Fun K "excess_heat" "excess_heat" sOp19 f fd) (T : RTxt K mg C) (TP : PTxt K mg CP) (G : MetOk CX0 P w K mg base 7 C "excess_heat" ["self", "temperature"] (spRExc C CP)) : FnOk P w K mg base (L2.CX P w) 8 f fd ["reservoir", "arguments"] (spOp C CP (EC CC CO CD CN CF CB) 19) := by
  refine F.okX (N := ["reservoir", "arguments"]) ⟨rfl, rfl, rfl, by decide +kernel, rfl, by decide +kernel, by decide +kernel⟩ (fun vs H Q E h => ?_) (fun cdv A outer s H vs Q E hr h => ⟨_, pss_one (ps_ret (pe_op op_cat (pe_lst (pa_cons pe_int pa_nil)) (pe_callTy call_list_of rfl TP.gL boot_list (pa_cons (pe_m G T.cl hr (by decide) pass0 (pv 0) (pa_cons (pe_ix ix_list (pv 1) pe_int (fun _ _ => rfl)) pa_nil)) pa_nil)))), ?_⟩)
  · obtain ⟨r, fa, R, al, xs, q, m, rfl, _⟩ := h
    rfl
  · obtain ⟨r, fa, R, al, xs, q, m, rfl, hal, h0, hq, hR, gR, hm, ke, kq⟩ := h
    obtain ⟨b, rfl, rfl⟩ := req19 hq
    have hb := h0 b (by simp)
    obtain ⟨v, rfl⟩ := nat_of hb
    rw [Int.toNat_natCast] at ke kq
    refine ⟨by show 1 ≤ sizeLine; decide, fun l0 hl0 => ?_⟩
    have s0 : Same H (upd H l0 (.lst [.int 0])) := same_upd hl0
    have g0 : (upd H l0 (.lst [.int 0])) l0 = some (.lst [.int 0]) := upd_same
    generalize upd H l0 (.lst [.int 0]) = H0 at s0 g0 ⊢
    have r0 := hR.same s0
    obtain ⟨dx, p, ii, a', b', n, sv, o⟩ := res_obj r0
    have cs := cap_small gR.l
    have hv : v < 2 ^ 32 * 256 := by omega
    have fu : Fit 4400 ((v : Rat) * ((Kqk1.totalCapacity R.cells : Nat) : Rat)) := by
      rw [← cast_mul]
      refine fit_natB ?_
      have : v * Kqk1.totalCapacity R.cells ≤ v * 168 := Nat.mul_le_mul_left _ cs
      omega
    refine ⟨_, rfl, r, dx, _, rfl, o, rF_none (by decide +kernel), _, rfl, al, _, 0, _, rfl, rfl, SqL.of (s0 _ _ hal), one_at0, r, fa, R, v, rfl, r0, cells_fit gR.l, heat_fit gR.l, by omega, by omega, heat_one gR.l, fu, fun H1 a1 s1 f1 => ?_⟩
    refine cat_fr (s1 _ _ g0) (by decide) f1 fun H2 l s2 hl h2 => ?_
    have s02 := (s0.trans s1).trans s2
    exact kq R (Kqk1.fractions [Kqk1.totalHeat R.cells - (v : Rat) * ((Kqk1.totalCapacity R.cells : Nat) : Rat)]) rfl H2 fa l (Keep.of_same s02) (hR.same s02) (fun x hx => .inl hx) (.inr ((s0.trans s1).free hl)) h2
theorem ok_op20 {f : Addr} {fd : FuncData} (F : Fun K "summary" "summary" sOp20 f fd) (T : RTxt K mg C) (TP : PTxt K mg CP) (TG : GTxt K mg) (GC : MetOk CX0 P w K mg base 2 C "cell_count" ["self"] (spRCount C CP)) (GH : MetOk CX0 P w K mg base 1 C "has_saved" ["self"] (spRHas C CP)) : FnOk P w K mg base (L2.CX P w) 8 f fd ["reservoir", "arguments"] (spOp C CP (EC CC CO CD CN CF CB) 20) := by
  have sc : FnScope ["reservoir", "arguments", "begin"] ["reservoir", "arguments"] (defScope sOp20) := ⟨rfl, rfl, rfl, by decide +kernel, rfl, by decide +kernel, by decide +kernel⟩
  refine F.okX sc (fun vs H Q E h => ?_) (fun cdv A outer s H vs Q E hr h => ⟨_, pss_cons (ps_set (i := 2) sc.nd rfl (Or.inl rfl) (pe_lst (pa_cons (pe_m0' GC T.cl hr (by decide) pass0 (pv 0)) (pa_cons (pe_fld (pv 0) rfl) (pa_cons (pe_callTy call_int1 (by rfl) TG.gI (by decide +kernel) (pa_cons (pe_m0' GH T.cl hr (by decide) pass0 (pv 0)) pa_nil)) pa_nil)))))
    (pss_one (ps_ret (pe_op op_cat (pv 2) (pe_callTy call_list_of rfl TP.gL boot_list (pa_cons (pe_fld (pv 0) rfl) pa_nil))))), ?_⟩)
  · obtain ⟨r, fa, R, al, xs, q, m, rfl, _⟩ := h
    rfl
  · obtain ⟨r, fa, R, al, xs, q, m, rfl, hal, h0, hq, hR, gR, hm, ke, kq⟩ := h
    obtain ⟨rfl, rfl⟩ := req20 hq
    obtain ⟨p, i, a, b, sv, fp, fs, rfl, hL⟩ := id hR
    obtain ⟨dx, o⟩ := hL.obj
    refine ⟨_, rfl, r, dx, _, rfl, o, rF_none (by decide +kernel), r, _, R, rfl, hR, _, rfl, r, C, dx, _, _, rfl, o, T.cl, T.nN, rF_n, _, rfl, r, dx, _, rfl, o, rF_none (by decide +kernel), r, _, R, rfl, hR, .inr ⟨R.saved.isSome, rfl, by show 3 ≤ sizeLine; decide, fun l0 hl0 => ?_⟩⟩
    have s0 : Same H (upd H l0 (.lst [.int (R.cells.length : Int), .int (R.producedCount : Int), .int (if R.saved.isSome = true then 1 else 0)])) := same_upd hl0
    have g0 : (upd H l0 (.lst [.int (R.cells.length : Int), .int (R.producedCount : Int), .int (if R.saved.isSome = true then 1 else 0)])) l0 = some (.lst [.int (R.cells.length : Int), .int (R.producedCount : Int), .int (if R.saved.isSome = true then 1 else 0)]) := upd_same
    generalize upd H l0 (.lst [.int (R.cells.length : Int), .int (R.producedCount : Int), .int (if R.saved.isSome = true then 1 else 0)]) = H0 at s0 g0 ⊢
    refine ⟨_, rfl, _, rfl, r, C, dx, _, _, rfl, s0 _ _ o, T.cl, T.nI, rF_i, cat_fr g0 (by show 3 ≤ 1000; decide) (hL.inj.same s0) fun H2 l s2 hl h2 => ?_⟩
    have s02 := s0.trans s2
    exact kq R (.values R.cells.length ([(R.producedCount : Int), if R.saved.isSome then 1 else 0] ++ Kqk1.fraction R.injection)) rfl H2 _ l (Keep.of_same s02) (hR.same s02) (fun x hx => .inl hx) (.inr (s0.free hl)) h2
end
end CF
namespace CF
open PySem PySem.Spec PyProof.Rows L2
open PySem.W (Codec)
open Kqk1Neutral (requestOf fields)
/-! the desk -/
/-- the greatest call that the desk knows -/
abbrev kM : Int := 20
def dF (v : V) : List (Str × V) := [("reservoir", v)]
def Held1 (C CP : Addr) (H : Hp) (sv : V) (fa : List Addr) : Option Kqk1.Reservoir → Prop
  | none => sv = .non ∧ fa = []
  | some R => ∃ r, sv = .ref r ∧ Res C CP H r fa R
structure DeskAt (CK C CP : Addr) (H : Hp) (d : Addr) (sv : V) (fa : List Addr) (s : Option Kqk1.Reservoir) : Prop where
  obj : ∃ dx, H d = some (.ins CK dx (dF sv))
  held : Held1 C CP H sv fa s
  nd : d ∉ fa
def EK (CR CC CO CD CN CF CB : Addr) (c : Int) : Option Addr := if c = -11 then some CR else EC CC CO CD CN CF CB c
/-- carry_out: one call; what it refuses it raises -/
def spCarry (CK C CP CR CC CO CD CN CF CB : Addr) : Sp := fun vs H Q E => ∃ d sv fa s al xs q, ∃ k : Int, ∃ m : Nat, vs = [.ref d, .int k, .ref al] ∧ H al = some (.lst (xs.map V.int)) ∧ (∀ x ∈ xs, 0 ≤ x ∧ x < 2 ^ 40) ∧ requestOf [k :: xs] = some q ∧ 0 ≤ k ∧ k ≤ kM ∧ DeskAt CK C CP H d sv fa s ∧ GoodS m s ∧ m ≤ 1000 ∧
  (∀ c a, EK CR CC CO CD CN CF CB c = some a → Kqk1.step s q = (s, .value c) → ∀ H', Same H H' → E (.ref a) none H') ∧
  (∀ s' res, Kqk1.step s q = (s', res) → ∀ H' sv' fa' l, Keep (d :: fa) H H' → DeskAt CK C CP H' d sv' fa' s' → (∀ x ∈ fa', x ∈ fa ∨ H x = none) → (l ∈ fa ∨ H l = none) → H' l = some (.lst ((fields res).map V.int)) → Q (.ref l) H')
structure KTxt (K : PySem.W.Frag) (mg : Str → Option Value) (CK : Addr) (dO : Addr) (es : Array DictEntry) (n : Nat) : Prop where
  cl : Cls K CK
  nR : NoAttr K CK "reservoir"
  gC : mg "Desk" = some (.ref CK)
  g0 : ∃ t, mg "CREATE" = some (.int 0 t)
  gO : mg "OPERATIONS" = some (.ref dO)
  dO' : IDict K dO es n
abbrev sKInit : Stmt := inClass (top 59) 0
abbrev sKCarry : Stmt := inClass (top 59) 1
abbrev sKAns : Stmt := inClass (top 59) 2
section
variable {P : Program} {w : World} {K : PySem.W.Frag} {mg : Str → Option Value} {base : Heap} {CK C CP CR CO CC CD CN CF CB dO : Addr} {es : Array DictEntry} {nE : Nat}
theorem dF_r {v : V} : (dF v).lookup ("reservoir" : Str) = some v := lk_here
theorem dF_no {v : V} {m : Str} (h : (m == ("reservoir" : Str)) = false) : (dF v).lookup m = none := (lk_past h).trans rfl
theorem dF_put {v u : V} : putF "reservoir" u (dF v) = dF u := put_here
def spKInit (CK : Addr) : Sp := fun vs H Q _ => ∃ d dx, vs = [.ref d] ∧ H d = some (.ins CK dx []) ∧ ∀ H', Keep [d] H H' → H' d = some (.ins CK dx (dF .non)) → Q .non H'
theorem scKI : FnScope ["self"] ["self"] (defScope sKInit) := ⟨rfl, rfl, rfl, by decide +kernel, rfl, by decide +kernel, by decide +kernel⟩
theorem ok_kinit {f : Addr} {fd : FuncData} (F : Fun K "__init__" "Desk.__init__" sKInit f fd) (T : KTxt K mg CK dO es nE) : FnOk P w K mg base CX0 1 f fd ["self"] (spKInit CK) := by
  refine F.ok scKI (fun vs H Q E h => ?_) (fun cdv A outer s H vs Q E hr h => ⟨_, pss_one (ps_fld (pv 0) pe_non rfl), ?_⟩)
  · obtain ⟨d, dx, rfl, _⟩ := h
    rfl
  · obtain ⟨d, dx, rfl, hd, k⟩ := h
    exact ⟨_, rfl, d, CK, dx, _, rfl, hd, T.cl, T.nR, by show 0 < 1000; decide, k _ (Keep.put (by simp)) upd_same⟩
theorem step_none {q : Kqk1.Request} (h : ∀ n, q ≠ .create n) : Kqk1.step none q = (none, .value (-11)) := by
  cases q <;> first
    | rfl
    | exact absurd rfl (h _)
theorem step_create (s : Option Kqk1.Reservoir) (n : Nat) : Kqk1.step s (.create n) = if n < 1 ∨ 8 < n then (s, .value (-22)) else (some (fresh n), .value 0) := by
  cases s <;> rfl
theorem req0 {xs : List Int} {q : Kqk1.Request} (h : requestOf [0 :: xs] = some q) : ∃ a, xs = [a] ∧ q = .create a.toNat := by
  rcases xs with _ | ⟨a, _ | ⟨b, r⟩⟩
  · cases (show none = some q from h)
  · exact ⟨a, rfl, (Option.some.inj h).symm⟩
  · cases (show none = some q from h)
theorem req_create {k : Int} {xs : List Int} {n : Nat} (h : requestOf [k :: xs] = some (.create n)) : k = 0 := by
  unfold requestOf at h
  split at h <;> first
    | (cases h; done)
    | (rename_i e; cases e; rfl)
    | (rename_i e; injection e with e1 _; injection e1)
theorem Keep.one {H H' : Hp} {d : Addr} {fa : List Addr} (k : Keep [d] H H') : Keep (d :: fa) H H' := k.mono fun y hy => by
  have z : y = d := by simpa using hy
  rw [z]
  simp
theorem ek_ec {c : Int} {a : Addr} (h : EC CC CO CD CN CF CB c = some a) : EK CR CC CO CD CN CF CB c = some a := by
  unfold EK
  by_cases e : c = -11
  · subst e
    cases (show none = some a from h)
  · rw [if_neg e]
    exact h
theorem scKC : FnScope ["self", "number", "arguments", "operation"] ["self", "number", "arguments"] (defScope sKCarry) := ⟨rfl, rfl, rfl, by decide +kernel, rfl, by decide +kernel, by decide +kernel⟩
/-- the defs that the table holds -/
def InOps (C CP CC CO CD CN CF CB : Addr) (es : Array DictEntry) (f : Addr) (sp : Sp) : Prop := ∃ k : Int, 1 ≤ k ∧ k ≤ 20 ∧ findBy Value.isInt es k = some (.ref f) ∧ sp = spOp C CP (EC CC CO CD CN CF CB) k
structure OpsOk (P : Program) (w : World) (K : PySem.W.Frag) (mg : Str → Option Value) (base : Heap) (C CP CC CO CD CN CF CB : Addr) (es : Array DictEntry) : Prop where
  all : ∀ k : Int, 1 ≤ k → k ≤ 20 → ∃ f, findBy Value.isInt es k = some (.ref f) ∧ HeldX (L2.CX P w) P w K mg base 8 f (spOp C CP (EC CC CO CD CN CF CB) k)
theorem OpsOk.held (h : OpsOk P w K mg base C CP CC CO CD CN CF CB es) : ∀ f sp, InOps C CP CC CO CD CN CF CB es f sp → HeldX (L2.CX P w) P w K mg base 8 f sp := by
  rintro f sp ⟨k, h1, h2, e, rfl⟩
  obtain ⟨f', e', g⟩ := h.all k h1 h2
  rw [e] at e'
  cases e'
  exact g
theorem ok_carry {f : Addr} {fd : FuncData} (F : Fun K "carry_out" "Desk.carry_out" sKCarry f fd) (T : KTxt K mg CK dO es nE) (TR : ExcTxt K mg "NoReservoir" CR) (O : OpsOk P w K mg base C CP CC CO CD CN CF CB es)
    (M : MakOk (L2.CX P w) P w K mg base 3 "Reservoir" C ["self", "cell_count"] (spRInit C CP CO)) : FnOk P w K mg base (L2.CX P w) 9 f fd ["self", "number", "arguments"] (spCarry CK C CP CR CC CO CD CN CF CB) := by
  refine F.okX scKC (fun vs H Q E h => ?_) (fun cdv A outer s H vs Q E hr h => ⟨_, pss_cons (ps_if (pt_cmpR op_eq (pv 1) (pe_k1 T.g0 rfl) (nomark _))
        (pss_cons (ps_fld (pv 0) (pe_k M hr (by decide) rfl (passE (takes_of rfl rfl rfl rfl)) (pa_cons (pe_ix ix_list (pv 2) pe_int (fun _ _ => rfl)) pa_nil)) rfl)
        (pss_one (ps_ret (pe_lst (pa_cons pe_int pa_nil))))) pss_nil)
    (pss_cons (ps_if (pt_cmp (pc_isN (pe_fld (pv 0) rfl))) (pss_one (ps_raise rfl (takes_of rfl rfl rfl rfl) (TR.pmk (by exact rfl)))) pss_nil)
    (pss_cons (ps_set (i := 3) scKC.nd rfl (Or.inl rfl) (pe_ix (ix_id T.dO') (pe_glob (v := .ref dO) rfl T.gO rfl) (pv 1) (fun _ _ => rfl)))
    (pss_one (ps_ret (pe_callAX (i := 3) (S := InOps C CP CC CO CD CN CF CB es) O.held hr (by decide) (passE (takes_of rfl rfl rfl rfl)) rfl (Or.inl rfl) (pa_cons (pe_fld (pv 0) rfl) (pa_cons (pv 2) pa_nil))))))), ?_⟩)
  · obtain ⟨d, sv, fa, s, al, xs, q, k, m, rfl, _⟩ := h
    rfl
  · obtain ⟨d, sv, fa, st, al, xs, q, k, m, rfl, hal, h0, hq, hk0, hk1, hD, gS, hm, ke, kq⟩ := h
    obtain ⟨dx, hd⟩ := hD.obj
    refine ⟨_, rfl, rfl, _, rfl, ifB (fun c => ?_) (fun c => ?_)⟩
    · -- create
      have c1 : V.int k = V.int 0 := of_decide_eq_true c
      cases c1
      obtain ⟨b, rfl, rfl⟩ := req0 hq
      obtain ⟨n, rfl⟩ := nat_of (h0 b (by simp))
      rw [Int.toNat_natCast, step_create] at ke kq
      refine ⟨_, rfl, al, _, 0, _, rfl, rfl, SqL.of hal, one_at0, ?_⟩
      intro x dx' nx nd ne
      have s0 : Same H (upd (upd H dx' (.own x)) x (.ins C dx' [])) := (same_upd nd).trans (same_upd (by rw [upd_ne ne.symm]; exact nx))
      refine ⟨x, dx', n, rfl, upd_same, fun c => ke _ _ (ek_ec ec22) (by rw [if_pos c]) _ s0, fun c1 c2 H1 fa1 k1 r1 sub1 => ?_⟩
      have s1 : Same H H1 := fun b o e => k1 b o (s0 b o e) (by simpa using ne_of_none e nx)
      refine ⟨rfl, _, rfl, d, CK, dx, _, rfl, s1 _ _ hd, T.cl, T.nR, by show 1 < 1000; decide, ?_⟩
      rw [dF_put]
      have k2 : Keep [d] H1 (upd H1 d (.ins CK dx (dF (.ref x)))) := Keep.put (by simp)
      have f1 : ∀ y ∈ fa1, H y = none := fun y hy => by
        rcases sub1 y hy with rfl | h
        · exact nx
        · exact s0.free h
      have dn : d ∉ fa1 := fun z => by
        rw [f1 d z] at hd
        cases hd
      have nt1 : ∀ b ∈ [d], ∀ o, H1 b = some o → isTup o = false := by
        intro y hy o e
        have z : y = d := by simpa using hy
        rw [z, s1 _ _ hd] at e
        cases e
        rfl
      have r2 := r1.keep k2 nt1 (apart_r dn)
      refine ⟨by show 1 ≤ sizeLine; decide, fun l hl => ?_⟩
      have s3 := same_upd (o := .lst [.int 0]) hl
      have k03 : Keep (d :: fa) H (upd (upd H1 d (.ins CK dx (dF (.ref x)))) l (.lst [.int 0])) := (((Keep.of_same s1).trans k2).one).trans (Keep.of_same s3)
      have ld : l ≠ d := fun z => by
        rw [z, upd_same] at hl
        cases hl
      have lf : H l = none := s1.free (k2.free (by simpa using ld) hl)
      exact kq (some (fresh n)) (.value 0) (by rw [if_neg (by omega)]) _ (.ref x) fa1 l k03 ⟨⟨dx, s3 _ _ upd_same⟩, ⟨x, rfl, r2.same s3⟩, dn⟩ (fun y hy => .inr (f1 y hy)) (.inr lf) upd_same
    · have c1 : ¬ (V.int k = V.int 0) := of_decide_eq_false c
      have hk : 1 ≤ k := by
        have : k ≠ 0 := fun z => c1 (by rw [z])
        omega
      refine ⟨_, rfl, d, CK, dx, _, _, rfl, hd, T.cl, T.nR, dF_r, _, rfl, ifB (fun c2 => ?_) (fun c2 => ?_)⟩
      · -- no reservoir
        have e : sv = .non := of_decide_eq_true c2
        subst e
        have hs : st = none := by
          cases st with
          | none => rfl
          | some R =>
            obtain ⟨r, e, _⟩ := hD.held
            cases e
        subst hs
        refine ke (-11) CR rfl ?_ H (Same.refl H)
        refine step_none fun n z => ?_
        subst z
        have := req_create hq
        omega
      · have e : ¬ sv = .non := of_decide_eq_false c2
        cases st with
        | none => exact absurd hD.held.1 e
        | some R =>
          obtain ⟨r, rfl, hR⟩ := hD.held
          obtain ⟨f', ef, hf⟩ := O.all k hk hk1
          refine ⟨_, rfl, k, Value.ref f', V.ref f', rfl, rfl, ef, rfl, ?_⟩
          refine ⟨f', spOp C CP (EC CC CO CD CN CF CB) k, rfl, ⟨k, hk, hk1, ef, rfl⟩, _, rfl, d, CK, dx, _, _, rfl, hd, T.cl, T.nR, dF_r, _, rfl, ?_⟩
          refine ⟨r, fa, R, al, xs, q, m, rfl, hal, h0, hq, hR, gS R rfl, hm, fun c a hc hs => ke c a (ek_ec hc) hs, fun R' res hs H1 fa1 l k1 r1 sub1 hl h1 => ?_⟩
          refine kq (some R') res hs H1 (.ref r) fa1 l (k1.mono fun y hy => by simp [hy]) ⟨⟨dx, k1 _ _ hd hD.nd⟩, ⟨r, rfl, r1⟩, fun z => ?_⟩ sub1 hl h1
          rcases sub1 d z with h | h
          · exact hD.nd h
          · rw [hd] at h
            cases h
end
end CF
namespace CF
open PySem PySem.Spec PyProof.Rows L2
open PySem.W (Codec)
open Kqk1Neutral (requestOf fields)
/-- o.m(e, ..) within a try: what it raises is wished for at the slots as they stand -/
def tMethS (C : Addr) (m : Str) (sp : Sp) (E : L2.St → XK) (ta : TE) (t : TA) : TE := fun σ H Q => ta σ H fun x H1 => ∃ a dx fs, x = .ref a ∧ H1 a = some (.ins C dx fs) ∧ fs.lookup m = none ∧ t σ H1 fun vs H2 => sp (x :: vs) H2 Q (E σ)
theorem pe_methS {X : Cx} {CX : CXT} {k : Nat} {f C : Addr} {fd : FuncData} {ps : List Str} {sp : Sp} {E : L2.St → XK} {m : Str} {pos apos : Pos} {e o : Expr} {es : List Expr} {ta : TE} {t : TA} {pl : Sem Bool} (he : PE X o ta) (c : Cls X.K C) (hm : Meth X.K C m f)
    (F : FnOk X.prog X.w X.K X.mg X.base CX k f fd ps sp) (hr : Room k X.A) (hb : Binds X.K fd ps []) (hx : ∀ σ, PassesAt CX X σ (E σ)) (ha : PA X (e :: es) t)
    (hst : starEach (e :: es) X.env = (false, eval e X.env) :: starEach es X.env := by rfl) (hpl : (backTo pos (starEach es X.env)).any (·.1) = false := by rfl)
    (ht : eval (.Call (.Attribute o m apos) (e :: es) [] pos) X.env = (do
      let ov ← eval o X.env
      standAt apos.atName
      let (f, first) ← holding [ov] (getMethod ov m pl)
      callWith pos f first (backTo pos (starEach (e :: es) X.env)) (backToKw pos (keywordEach [] X.env))) := by rfl) :
    PE X (.Call (.Attribute o m apos) (e :: es) [] pos) (tMethS C m sp E ta t) := by
  refine ⟨fun pins s σ H Q I h => ?_⟩
  refine PySem.W.methodCall_KW (pl := pl) (thn (he.run pins s σ H _ I h) fun u s1 ⟨x, H1, I1, rx, a, dx, fs, ex, ea, l, q⟩ => ?_) ht
  subst ex
  obtain rfl : u = Value.ref a := rx
  refine getmeth_ok I1 ea c hm l ?_
  refine PySem.W.callWith_K (first := [.ref a]) (h₀ := X.base) I.ok.mod.kin hm.kp (thn (ha.run pos pins s1 σ H1 _ I1 q) fun us s2 ⟨vs, H2, I2, r, q2⟩ => ⟨I2.kIn, ?_⟩) hst hpl
  exact run_fnS (us := .ref a :: us) (vs := .ref a :: vs) F hr hb (hx σ) I2 (.cons rfl r) q2
theorem pe_mS {X : Cx} {CX : CXT} {k j : Nat} {C : Addr} {ps : List Str} {sp : Sp} {E : L2.St → XK} {m : Str} {pos apos : Pos} {e o : Expr} {es : List Expr} {ta : TE} {t : TA} {pl : Sem Bool} (G : MetOk CX X.prog X.w X.K X.mg X.base k C m ps sp) (c : Cls X.K C) (hr : Room j X.A) (hk : k ≤ j) (hx : ∀ σ, PassesAt CX X σ (E σ)) (he : PE X o ta) (ha : PA X (e :: es) t)
    (hst : starEach (e :: es) X.env = (false, eval e X.env) :: starEach es X.env := by rfl) (hpl : (backTo pos (starEach es X.env)).any (·.1) = false := by rfl)
    (ht : eval (.Call (.Attribute o m apos) (e :: es) [] pos) X.env = (do
      let ov ← eval o X.env
      standAt apos.atName
      let (f, first) ← holding [ov] (getMethod ov m pl)
      callWith pos f first (backTo pos (starEach (e :: es) X.env)) (backToKw pos (keywordEach [] X.env))) := by rfl) :
    PE X (.Call (.Attribute o m apos) (e :: es) [] pos) (tMethS C m sp E ta t) := by
  obtain ⟨f, fd, M, F, b⟩ := G.ex
  exact pe_methS he c M F (hr.mono hk) b hx ha hst hpl ht
/-- answer: one call, its answer as the specification has it -/
def spAnswer (CK C CP : Addr) : Sp := fun vs H Q _ => ∃ d sv fa s al xs q, ∃ k : Int, ∃ m : Nat, vs = [.ref d, .int k, .ref al] ∧ H al = some (.lst (xs.map V.int)) ∧ (∀ x ∈ xs, 0 ≤ x ∧ x < 2 ^ 40) ∧ requestOf [k :: xs] = some q ∧ 0 ≤ k ∧ k ≤ kM ∧ DeskAt CK C CP H d sv fa s ∧ GoodS m s ∧ m ≤ 1000 ∧
  (∀ s' res, Kqk1.step s q = (s', res) → ∀ H' sv' fa' l, Keep (d :: fa) H H' → DeskAt CK C CP H' d sv' fa' s' → (∀ x ∈ fa', x ∈ fa ∨ H x = none) → (l ∈ fa ∨ H l = none) → H' l = some (.lst ((fields res).map V.int)) → Q (.ref l) H')
/-- of two exception classes: what the one's clause says of an error of the other -/
structure Exms (K : PySem.W.Frag) (CR CC CO CD CN CF CB : Addr) : Prop where
  e00 : PySem.W.exmOne K (.ref CR) (.ref CR) = some true
  e10 : PySem.W.exmOne K (.ref CC) (.ref CR) = some false
  e11 : PySem.W.exmOne K (.ref CC) (.ref CC) = some true
  e20 : PySem.W.exmOne K (.ref CO) (.ref CR) = some false
  e21 : PySem.W.exmOne K (.ref CO) (.ref CC) = some false
  e22 : PySem.W.exmOne K (.ref CO) (.ref CO) = some true
  e30 : PySem.W.exmOne K (.ref CN) (.ref CR) = some false
  e31 : PySem.W.exmOne K (.ref CN) (.ref CC) = some false
  e32 : PySem.W.exmOne K (.ref CN) (.ref CO) = some false
  e33 : PySem.W.exmOne K (.ref CN) (.ref CN) = some true
  e40 : PySem.W.exmOne K (.ref CF) (.ref CR) = some false
  e41 : PySem.W.exmOne K (.ref CF) (.ref CC) = some false
  e42 : PySem.W.exmOne K (.ref CF) (.ref CO) = some false
  e43 : PySem.W.exmOne K (.ref CF) (.ref CN) = some false
  e44 : PySem.W.exmOne K (.ref CF) (.ref CF) = some true
  e50 : PySem.W.exmOne K (.ref CD) (.ref CR) = some false
  e51 : PySem.W.exmOne K (.ref CD) (.ref CC) = some false
  e52 : PySem.W.exmOne K (.ref CD) (.ref CO) = some false
  e53 : PySem.W.exmOne K (.ref CD) (.ref CN) = some false
  e54 : PySem.W.exmOne K (.ref CD) (.ref CF) = some false
  e55 : PySem.W.exmOne K (.ref CD) (.ref CD) = some true
  e60 : PySem.W.exmOne K (.ref CB) (.ref CR) = some false
  e61 : PySem.W.exmOne K (.ref CB) (.ref CC) = some false
  e62 : PySem.W.exmOne K (.ref CB) (.ref CO) = some false
  e63 : PySem.W.exmOne K (.ref CB) (.ref CN) = some false
  e64 : PySem.W.exmOne K (.ref CB) (.ref CF) = some false
  e65 : PySem.W.exmOne K (.ref CB) (.ref CD) = some false
  e66 : PySem.W.exmOne K (.ref CB) (.ref CB) = some true
theorem Held1.same {C CP : Addr} {H H' : Hp} {sv : V} {fa : List Addr} {s : Option Kqk1.Reservoir} (h : Held1 C CP H sv fa s) (k : Same H H') : Held1 C CP H' sv fa s := by
  cases s with
  | none => exact h
  | some R =>
    obtain ⟨r, e, hR⟩ := h
    exact ⟨r, e, hR.same k⟩
theorem DeskAt.same {CK C CP : Addr} {H H' : Hp} {d : Addr} {sv : V} {fa : List Addr} {s : Option Kqk1.Reservoir} (h : DeskAt CK C CP H d sv fa s) (k : Same H H') : DeskAt CK C CP H' d sv fa s := by
  obtain ⟨⟨dx, o⟩, hh, nd⟩ := h
  exact ⟨⟨dx, k _ _ o⟩, hh.same k, nd⟩
theorem ek_cases {CR CC CO CD CN CF CB a : Addr} {c : Int} (h : EK CR CC CO CD CN CF CB c = some a) : (c = -11 ∧ a = CR) ∨ (c = -2 ∧ a = CC) ∨ (c = -22 ∧ a = CO) ∨ (c = -75 ∧ a = CD) ∨ (c = -6 ∧ a = CN) ∨ (c = -34 ∧ a = CF) ∨ (c = -33 ∧ a = CB) := by
  unfold EK EC at h
  by_cases e0 : c = -11
  · rw [if_pos e0] at h
    exact .inl ⟨e0, (Option.some.inj h).symm⟩
  · rw [if_neg e0] at h
    by_cases e1 : c = -2
    · rw [if_pos e1] at h
      exact .inr (.inl ⟨e1, (Option.some.inj h).symm⟩)
    · rw [if_neg e1] at h
      by_cases e2 : c = -22
      · rw [if_pos e2] at h
        exact .inr (.inr (.inl ⟨e2, (Option.some.inj h).symm⟩))
      · rw [if_neg e2] at h
        by_cases e3 : c = -75
        · rw [if_pos e3] at h
          exact .inr (.inr (.inr (.inl ⟨e3, (Option.some.inj h).symm⟩)))
        · rw [if_neg e3] at h
          by_cases e4 : c = -6
          · rw [if_pos e4] at h
            exact .inr (.inr (.inr (.inr (.inl ⟨e4, (Option.some.inj h).symm⟩))))
          · rw [if_neg e4] at h
            by_cases e5 : c = -34
            · rw [if_pos e5] at h
              exact .inr (.inr (.inr (.inr (.inr (.inl ⟨e5, (Option.some.inj h).symm⟩)))))
            · rw [if_neg e5] at h
              by_cases e6 : c = -33
              · rw [if_pos e6] at h
                exact .inr (.inr (.inr (.inr (.inr (.inr (⟨e6, (Option.some.inj h).symm⟩))))))
              · rw [if_neg e6] at h
                cases h
section
variable {P : Program} {w : World} {K : PySem.W.Frag} {mg : Str → Option Value} {base : Heap} {CK C CP CR CO CC CD CN CF CB dO : Addr} {es : Array DictEntry} {nE : Nat}
theorem scKA : FnScope ["self", "number", "arguments"] ["self", "number", "arguments"] (defScope sKAns) := ⟨rfl, rfl, rfl, by decide +kernel, rfl, by decide +kernel, by decide +kernel⟩
def tNeg (z : Int) : TS := tRet (tLst (tCons (tUn (rU fun i => .int (-i)) (tC (.int z))) tNil))
theorem ok_kans {f : Addr} {fd : FuncData} (F : Fun K "answer" "Desk.answer" sKAns f fd) (T : KTxt K mg CK dO es nE) (TR : ExcTxt K mg "NoReservoir" CR) (TC : ExcTxt K mg "NoSuchCell" CC) (TO : ExcTxt K mg "OutOfRange" CO) (TN : ExcTxt K mg "NoSavedProfile" CN) (TF : ExcTxt K mg "DifferentCells" CF) (TD : ExcTxt K mg "DenominatorTooLarge" CD) (TB : ExcTxt K mg "NoBreakthrough" CB) (X : Exms K CR CC CO CD CN CF CB)
    (G : MetOk (L2.CX P w) P w K mg base 9 CK "carry_out" ["self", "number", "arguments"] (spCarry CK C CP CR CC CO CD CN CF CB)) : FnOk P w K mg base CX0 10 f fd ["self", "number", "arguments"] (spAnswer CK C CP) := by
  refine F.ok scKA (fun vs H Q E h => ?_) (fun cdv A outer s H vs Q E hr h => ⟨_, pss_one (ps_try_many (tb := fun W => tRet (tMethS CK "carry_out" (spCarry CK C CP CR CC CO CD CN CF CB) (WE W) (tVar 0) (tCons (tVar 1) (tCons (tVar 2) tNil)))) (l := [(.ref CR, fun _ _ _ => tNeg 11), (.ref CC, fun _ _ _ => tNeg 2), (.ref CO, fun _ _ _ => tNeg 22), (.ref CN, fun _ _ _ => tNeg 6), (.ref CF, fun _ _ _ => tNeg 34), (.ref CD, fun _ _ _ => tNeg 75), (.ref CB, fun _ _ _ => tNeg 33)]) rfl rfl takes0
      (fun W pn xe tk _ => pss_one (ps_ret (pe_mS G T.cl hr (by decide) (fun σ => passAt tk σ) (pv 0) (by exact (pa_cons (pv 1) (pa_cons (pv 2) pa_nil))))))
      (.cons ⟨rfl, by decide, Or.inl TR.g⟩ (fun _ _ _ _ _ _ _ => pss_one (ps_ret (pe_lst (pa_cons (pe_un un_neg pe_int) pa_nil))))
      (.cons ⟨rfl, by decide, Or.inl TC.g⟩ (fun _ _ _ _ _ _ _ => pss_one (ps_ret (pe_lst (pa_cons (pe_un un_neg pe_int) pa_nil))))
      (.cons ⟨rfl, by decide, Or.inl TO.g⟩ (fun _ _ _ _ _ _ _ => pss_one (ps_ret (pe_lst (pa_cons (pe_un un_neg pe_int) pa_nil))))
      (.cons ⟨rfl, by decide, Or.inl TN.g⟩ (fun _ _ _ _ _ _ _ => pss_one (ps_ret (pe_lst (pa_cons (pe_un un_neg pe_int) pa_nil))))
      (.cons ⟨rfl, by decide, Or.inl TF.g⟩ (fun _ _ _ _ _ _ _ => pss_one (ps_ret (pe_lst (pa_cons (pe_un un_neg pe_int) pa_nil))))
      (.cons ⟨rfl, by decide, Or.inl TD.g⟩ (fun _ _ _ _ _ _ _ => pss_one (ps_ret (pe_lst (pa_cons (pe_un un_neg pe_int) pa_nil))))
      (.cons ⟨rfl, by decide, Or.inl TB.g⟩ (fun _ _ _ _ _ _ _ => pss_one (ps_ret (pe_lst (pa_cons (pe_un un_neg pe_int) pa_nil)))) .nil)))))))), ?_⟩)
  · obtain ⟨d, sv, fa, s, al, xs, q, k, m, rfl, _⟩ := h
    rfl
  · obtain ⟨d, sv, fa, st, al, xs, q, k, m, rfl, hal, h0, hq, hk0, hk1, hD, gS, hm, kq⟩ := h
    obtain ⟨dx, hd⟩ := hD.obj
    refine ⟨_, rfl, d, dx, _, rfl, hd, dF_no (by decide +kernel), _, rfl, _, rfl, d, sv, fa, st, al, xs, q, k, m, rfl, hal, h0, hq, hk0, hk1, hD, gS, hm, fun c a hc hs H' s1 => ?_, kq⟩
    have fin : ∀ z : Int, c = -z → tNeg z { nx := fun _ H' => Q .non H', rt := Q } [some (.ref d), some (.int k), some (.ref al)] H' := by
      rintro z rfl
      refine ⟨_, rfl, by show 1 ≤ sizeLine; decide, fun l hl => ?_⟩
      have s2 := s1.trans (same_upd (o := .lst [.int (-z)]) hl)
      exact kq st (.value (-z)) hs _ sv fa l (Keep.of_same s2) (hD.same s2) (fun x hx => .inl hx) (.inr (s1.free hl)) upd_same
    rcases ek_cases hc with ⟨e, rfl⟩ | ⟨e, rfl⟩ | ⟨e, rfl⟩ | ⟨e, rfl⟩ | ⟨e, rfl⟩ | ⟨e, rfl⟩ | ⟨e, rfl⟩
    · exact ⟨true, X.e00, fun _ _ _ => fin 11 e, fun z => nomatch z⟩
    · exact ⟨false, X.e10, (fun z => nomatch z), fun _ => ⟨true, X.e11, fun _ _ _ => fin 2 e, fun z => nomatch z⟩⟩
    · exact ⟨false, X.e20, (fun z => nomatch z), fun _ => ⟨false, X.e21, (fun z => nomatch z), fun _ => ⟨true, X.e22, fun _ _ _ => fin 22 e, fun z => nomatch z⟩⟩⟩
    · exact ⟨false, X.e50, (fun z => nomatch z), fun _ => ⟨false, X.e51, (fun z => nomatch z), fun _ => ⟨false, X.e52, (fun z => nomatch z), fun _ => ⟨false, X.e53, (fun z => nomatch z), fun _ => ⟨false, X.e54, (fun z => nomatch z), fun _ => ⟨true, X.e55, fun _ _ _ => fin 75 e, fun z => nomatch z⟩⟩⟩⟩⟩⟩
    · exact ⟨false, X.e30, (fun z => nomatch z), fun _ => ⟨false, X.e31, (fun z => nomatch z), fun _ => ⟨false, X.e32, (fun z => nomatch z), fun _ => ⟨true, X.e33, fun _ _ _ => fin 6 e, fun z => nomatch z⟩⟩⟩⟩
    · exact ⟨false, X.e40, (fun z => nomatch z), fun _ => ⟨false, X.e41, (fun z => nomatch z), fun _ => ⟨false, X.e42, (fun z => nomatch z), fun _ => ⟨false, X.e43, (fun z => nomatch z), fun _ => ⟨true, X.e44, fun _ _ _ => fin 34 e, fun z => nomatch z⟩⟩⟩⟩⟩
    · exact ⟨false, X.e60, (fun z => nomatch z), fun _ => ⟨false, X.e61, (fun z => nomatch z), fun _ => ⟨false, X.e62, (fun z => nomatch z), fun _ => ⟨false, X.e63, (fun z => nomatch z), fun _ => ⟨false, X.e64, (fun z => nomatch z), fun _ => ⟨false, X.e65, (fun z => nomatch z), fun _ => ⟨true, X.e66, fun _ _ _ => fin 33 e, fun z => nomatch z⟩⟩⟩⟩⟩⟩⟩
end
end CF
namespace CF
open PySem PySem.Spec PyProof.Rows L2
open PySem.W (Codec)
open Kqk1Neutral (requestOf fields)
/-! the list of calls -/
def argc : List Int := [1, 2, 2, 1, 1, 0, 1, 0, 1, 1, 0, 0, 0, 0, 1, 0, 0, 0, 0, 1, 0]
theorem whole_id (c : List (List Int)) : PyKqk1.whole c = c := by
  unfold PyKqk1.whole
  split <;> rfl
theorem answers_is {l : List Int} {raw : List (List (List Int))} (h : PyFlat.calls PyKqk1.shape l.length l = some raw) : PyKqk1.answers l = PyFlat.told (PyFlat.played Kqk1Neutral.step Kqk1Neutral.start raw) := by
  unfold PyKqk1.answers PyKqk1.calls
  rw [h]
  show PyFlat.told (PyFlat.played Kqk1Neutral.step Kqk1Neutral.start (raw.map PyKqk1.whole)) = _
  have e : raw.map PyKqk1.whole = raw := by
    rw [show PyKqk1.whole = id from funext whole_id, List.map_id]
  rw [e]
theorem asked_is {l : List Int} (h : PyKqk1.answers_asked l = true) : ∃ raw, PyFlat.calls PyKqk1.shape l.length l = some raw ∧ (PyKqk1.answers l).length ≤ 10000000 := by
  unfold PyKqk1.answers_asked at h
  cases e : PyFlat.calls PyKqk1.shape l.length l with
  | none =>
    rw [e] at h
    cases h
  | some raw =>
    rw [e] at h
    have h2 : (!raw.isEmpty && PyFlat.atMost 200 raw && PyInside.calls PyKqk1.bound raw && Kqk1Neutral.asked (raw.map PyKqk1.whole) && PyFlat.short 10000000 (PyKqk1.answers l)) = true := h
    rw [Bool.and_eq_true] at h2
    exact ⟨raw, rfl, of_decide_eq_true h2.2⟩
theorem shape_is {p : Int} {n k : Nat} (h : PyKqk1.shape p = some (n, k)) : k = 0 ∧ 0 ≤ p ∧ p ≤ 20 ∧ argc[p.toNat]? = some (n : Int) := by
  unfold PyKqk1.shape at h
  by_cases e0 : p = 0
  · subst e0; cases h; exact ⟨rfl, by decide, by decide, rfl⟩
  rw [if_neg e0] at h
  by_cases e1 : p = 1
  · subst e1; cases h; exact ⟨rfl, by decide, by decide, rfl⟩
  rw [if_neg e1] at h
  by_cases e2 : p = 2
  · subst e2; cases h; exact ⟨rfl, by decide, by decide, rfl⟩
  rw [if_neg e2] at h
  by_cases e3 : p = 3
  · subst e3; cases h; exact ⟨rfl, by decide, by decide, rfl⟩
  rw [if_neg e3] at h
  by_cases e4 : p = 4
  · subst e4; cases h; exact ⟨rfl, by decide, by decide, rfl⟩
  rw [if_neg e4] at h
  by_cases e5 : p = 5
  · subst e5; cases h; exact ⟨rfl, by decide, by decide, rfl⟩
  rw [if_neg e5] at h
  by_cases e6 : p = 6
  · subst e6; cases h; exact ⟨rfl, by decide, by decide, rfl⟩
  rw [if_neg e6] at h
  by_cases e7 : p = 7
  · subst e7; cases h; exact ⟨rfl, by decide, by decide, rfl⟩
  rw [if_neg e7] at h
  by_cases e8 : p = 8
  · subst e8; cases h; exact ⟨rfl, by decide, by decide, rfl⟩
  rw [if_neg e8] at h
  by_cases e9 : p = 9
  · subst e9; cases h; exact ⟨rfl, by decide, by decide, rfl⟩
  rw [if_neg e9] at h
  by_cases e10 : p = 10
  · subst e10; cases h; exact ⟨rfl, by decide, by decide, rfl⟩
  rw [if_neg e10] at h
  by_cases e11 : p = 11
  · subst e11; cases h; exact ⟨rfl, by decide, by decide, rfl⟩
  rw [if_neg e11] at h
  by_cases e12 : p = 12
  · subst e12; cases h; exact ⟨rfl, by decide, by decide, rfl⟩
  rw [if_neg e12] at h
  by_cases e13 : p = 13
  · subst e13; cases h; exact ⟨rfl, by decide, by decide, rfl⟩
  rw [if_neg e13] at h
  by_cases e14 : p = 14
  · subst e14; cases h; exact ⟨rfl, by decide, by decide, rfl⟩
  rw [if_neg e14] at h
  by_cases e15 : p = 15
  · subst e15; cases h; exact ⟨rfl, by decide, by decide, rfl⟩
  rw [if_neg e15] at h
  by_cases e16 : p = 16
  · subst e16; cases h; exact ⟨rfl, by decide, by decide, rfl⟩
  rw [if_neg e16] at h
  by_cases e17 : p = 17
  · subst e17; cases h; exact ⟨rfl, by decide, by decide, rfl⟩
  rw [if_neg e17] at h
  by_cases e18 : p = 18
  · subst e18; cases h; exact ⟨rfl, by decide, by decide, rfl⟩
  rw [if_neg e18] at h
  by_cases e19 : p = 19
  · subst e19; cases h; exact ⟨rfl, by decide, by decide, rfl⟩
  rw [if_neg e19] at h
  by_cases e20 : p = 20
  · subst e20; cases h; exact ⟨rfl, by decide, by decide, rfl⟩
  rw [if_neg e20] at h
  cases h
theorem calls_cons {f : Nat} {p : Int} {r : List Int} {cs : List (List (List Int))} (h : PyFlat.calls PyKqk1.shape f (p :: r) = some cs) : ∃ n f' cs', PyKqk1.shape p = some (n, 0) ∧ n ≤ r.length ∧ PyFlat.calls PyKqk1.shape f' (r.drop n) = some cs' ∧ cs = [p :: r.take n] :: cs' := by
  cases f with
  | zero => cases (show none = some cs from h)
  | succ f =>
    have h2 : (match PyFlat.call PyKqk1.shape (p :: r) with
      | none => none
      | some (c, t) => match PyFlat.calls PyKqk1.shape f t with
        | none => none
        | some cs => some (c :: cs)) = some cs := h
    cases es : PyKqk1.shape p with
    | none =>
      have e : PyFlat.call PyKqk1.shape (p :: r) = none := by
        simp only [PyFlat.call, es]
      rw [e] at h2
      cases h2
    | some nk =>
      obtain ⟨n, k⟩ := nk
      obtain ⟨rfl, _⟩ := shape_is es
      by_cases c : r.length < n
      · have e : PyFlat.call PyKqk1.shape (p :: r) = none := by
          simp only [PyFlat.call, es, if_pos c]
        rw [e] at h2
        cases h2
      · have e : PyFlat.call PyKqk1.shape (p :: r) = some ([p :: r.take n], r.drop n) := by
          simp only [PyFlat.call, es, if_neg c, PyFlat.rows]
        rw [e] at h2
        cases ec : PyFlat.calls PyKqk1.shape f (r.drop n) with
        | none =>
          have h3 : (match PyFlat.calls PyKqk1.shape f (r.drop n) with
            | none => none
            | some cs => some ([p :: r.take n] :: cs)) = some cs := h2
          rw [ec] at h3
          cases h3
        | some cs' =>
          have h3 : (match PyFlat.calls PyKqk1.shape f (r.drop n) with
            | none => none
            | some cs => some ([p :: r.take n] :: cs)) = some cs := h2
          rw [ec] at h3
          exact ⟨n, f, cs', rfl, by omega, ec, (Option.some.inj h3).symm⟩
theorem one_of {xs : List Int} (h : xs.length = 1) : ∃ a, xs = [a] := by
  rcases xs with _ | ⟨a, _ | ⟨b, r⟩⟩
  · cases h
  · exact ⟨a, rfl⟩
  · simp at h
theorem two_of {xs : List Int} (h : xs.length = 2) : ∃ a b, xs = [a, b] := by
  rcases xs with _ | ⟨a, _ | ⟨b, _ | ⟨c, r⟩⟩⟩
  · cases h
  · cases h
  · exact ⟨a, b, rfl⟩
  · simp at h
theorem none_of {xs : List Int} (h : xs.length = 0) : xs = [] := List.length_eq_zero_iff.mp h
theorem request_is {p : Int} {n : Nat} {xs : List Int} (h : PyKqk1.shape p = some (n, 0)) (hl : xs.length = n) : ∃ q, requestOf [p :: xs] = some q := by
  obtain ⟨_, h0, h20, ha⟩ := shape_is h
  obtain ⟨j, rfl⟩ := nat_of ⟨h0, by omega⟩
  rw [Int.toNat_natCast] at ha
  have hj : j ≤ 20 := by omega
  match j, hj, ha with
  | 0, _, ha => have e : n = 1 := by cases ha; rfl
                subst e; obtain ⟨a, rfl⟩ := one_of hl; exact ⟨_, rfl⟩
  | 1, _, ha => have e : n = 2 := by cases ha; rfl
                subst e; obtain ⟨a, b, rfl⟩ := two_of hl; exact ⟨_, rfl⟩
  | 2, _, ha => have e : n = 2 := by cases ha; rfl
                subst e; obtain ⟨a, b, rfl⟩ := two_of hl; exact ⟨_, rfl⟩
  | 3, _, ha => have e : n = 1 := by cases ha; rfl
                subst e; obtain ⟨a, rfl⟩ := one_of hl; exact ⟨_, rfl⟩
  | 4, _, ha => have e : n = 1 := by cases ha; rfl
                subst e; obtain ⟨a, rfl⟩ := one_of hl; exact ⟨_, rfl⟩
  | 5, _, ha => have e : n = 0 := by cases ha; rfl
                subst e; have e2 := none_of hl; subst e2; exact ⟨_, rfl⟩
  | 6, _, ha => have e : n = 1 := by cases ha; rfl
                subst e; obtain ⟨a, rfl⟩ := one_of hl; exact ⟨_, rfl⟩
  | 7, _, ha => have e : n = 0 := by cases ha; rfl
                subst e; have e2 := none_of hl; subst e2; exact ⟨_, rfl⟩
  | 8, _, ha => have e : n = 1 := by cases ha; rfl
                subst e; obtain ⟨a, rfl⟩ := one_of hl; exact ⟨_, rfl⟩
  | 9, _, ha => have e : n = 1 := by cases ha; rfl
                subst e; obtain ⟨a, rfl⟩ := one_of hl; exact ⟨_, rfl⟩
  | 10, _, ha => have e : n = 0 := by cases ha; rfl
                 subst e; have e2 := none_of hl; subst e2; exact ⟨_, rfl⟩
  | 11, _, ha => have e : n = 0 := by cases ha; rfl
                 subst e; have e2 := none_of hl; subst e2; exact ⟨_, rfl⟩
  | 12, _, ha => have e : n = 0 := by cases ha; rfl
                 subst e; have e2 := none_of hl; subst e2; exact ⟨_, rfl⟩
  | 13, _, ha => have e : n = 0 := by cases ha; rfl
                 subst e; have e2 := none_of hl; subst e2; exact ⟨_, rfl⟩
  | 14, _, ha => have e : n = 1 := by cases ha; rfl
                 subst e; obtain ⟨a, rfl⟩ := one_of hl; exact ⟨_, rfl⟩
  | 15, _, ha => have e : n = 0 := by cases ha; rfl
                 subst e; have e2 := none_of hl; subst e2; exact ⟨_, rfl⟩
  | 16, _, ha => have e : n = 0 := by cases ha; rfl
                 subst e; have e2 := none_of hl; subst e2; exact ⟨_, rfl⟩
  | 17, _, ha => have e : n = 0 := by cases ha; rfl
                 subst e; have e2 := none_of hl; subst e2; exact ⟨_, rfl⟩
  | 18, _, ha => have e : n = 0 := by cases ha; rfl
                 subst e; have e2 := none_of hl; subst e2; exact ⟨_, rfl⟩
  | 19, _, ha => have e : n = 1 := by cases ha; rfl
                 subst e; obtain ⟨a, rfl⟩ := one_of hl; exact ⟨_, rfl⟩
  | 20, _, ha => have e : n = 0 := by cases ha; rfl
                 subst e; have e2 := none_of hl; subst e2; exact ⟨_, rfl⟩
  | j + 21, h, _ => exact absurd h (by omega)
theorem step_is {s : Option Kqk1.Reservoir} {c : List (List Int)} {q : Kqk1.Request} (h : requestOf c = some q) : Kqk1Neutral.step s c = ((Kqk1.step s q).1, fields (Kqk1.step s q).2) := by
  unfold Kqk1Neutral.step
  rw [h]
end CF
namespace CF
open PySem PySem.Spec PyProof.Rows L2
open PySem.W (Codec)
open Kqk1Neutral (requestOf fields)
abbrev sAnswers : Stmt := top 60
/-- answers: a list of ints is handed in, the specification's list comes out -/
def spAnswers (K : PySem.W.Frag) : Sp := fun vs H Q _ => ∃ (a : Addr) (ns : List Int), vs = [.ref a] ∧ SqL K H a (ns.map V.int) ∧ ns.length ≤ 600 ∧ (∀ x ∈ ns, 0 ≤ x ∧ x < 2 ^ 40) ∧ PyKqk1.answers_asked ns = true ∧
  ∀ (H' : Hp) (p : Addr), H' p = some (.lst ((PyKqk1.answers ns).map V.int)) → Q (.ref p) H'
structure ATxt (K : PySem.W.Frag) (mg : Str → Option Value) (tA : Addr) : Prop where
  gA : mg "ARGUMENT_COUNTS" = some (.ref tA)
  tup : ∀ H : Hp, SqT K H tA (argc.map V.int)
  gN : mg "len" = none
theorem cut_mid {ns : List Int} {p : Nat} {n : Nat} {x : Int} {r : List Int} (h : ns.drop p = x :: r) (hn : n ≤ r.length) : cutV (ns.map V.int) (some ((p : Int) + 1)) (some ((p : Int) + 1 + (n : Int))) = (r.take n).map V.int := by
  have hl : ns.length = p + (r.length + 1) := by
    have := congrArg List.length h
    rw [List.length_drop, List.length_cons] at this
    omega
  have hr : ns.drop (p + 1) = r := by
    have : (ns.drop p).drop 1 = r := by rw [h]; rfl
    rw [List.drop_drop] at this
    exact this
  unfold cutV
  have e1 : HT.sIx (ns.map V.int).length 0 (some ((p : Int) + 1)) = p + 1 := by
    rw [show (p : Int) + 1 = ((p + 1 : Nat) : Int) by omega, HT.sIx_nat, List.length_map]
    omega
  have e2 : HT.sIx (ns.map V.int).length (ns.map V.int).length (some ((p : Int) + 1 + (n : Int))) = p + 1 + n := by
    rw [show (p : Int) + 1 + (n : Int) = ((p + 1 + n : Nat) : Int) by omega, HT.sIx_nat, List.length_map]
    omega
  rw [e1, e2, ← List.map_drop, hr, ← List.map_take]
  congr 2
  omega
theorem told_cons (a : List Int) (l : List (List Int)) : PyFlat.told (a :: l) = (a.length : Int) :: (a ++ PyFlat.told l) := by
  unfold PyFlat.told
  rw [List.flatMap_cons]
  rfl
section
variable {P : Program} {w : World} {K : PySem.W.Frag} {mg : Str → Option Value} {base : Heap} {CK C CP CR CO CC CD CN CF CB dO tA : Addr} {es : Array DictEntry} {nE : Nat}
theorem scAs : FnScope ["calls", "desk", "replies", "place", "number", "behind", "answer"] ["calls"] (defScope sAnswers) := ⟨rfl, rfl, rfl, by decide +kernel, rfl, by decide +kernel, by decide +kernel⟩
theorem ok_answers (hkM : (20 : Int) ≤ kM) {f : Addr} {fd : FuncData} (F : Fun K "answers" "answers" sAnswers f fd) (T : KTxt K mg CK dO es nE) (TA : ATxt K mg tA) (M : MakOk CX0 P w K mg base 1 "Desk" CK ["self"] (spKInit CK))
    (G : MetOk CX0 P w K mg base 10 CK "answer" ["self", "number", "arguments"] (spAnswer CK C CP)) : FnOk P w K mg base CX0 11 f fd ["calls"] (spAnswers K) := by
  refine F.ok scAs (fun vs H Q E h => ?_) (fun cdv A outer s H vs Q E hr h => ⟨_, pss_cons (ps_set (i := 1) scAs.nd rfl (Or.inl rfl) (pe_k0 M hr (by decide) rfl pass0))
    (pss_cons (ps_set (i := 2) scAs.nd rfl (Or.inl rfl) (pe_lst pa_nil))
    (pss_cons (ps_set (i := 3) scAs.nd rfl (Or.inl rfl) pe_int)
    (pss_cons (ps_while PassesOwn.never (pt_cmpR op_lt (pv 3) (pe_callB call_len_seq (by rfl) TA.gN PySem.boot_len (pa_cons (pv 0) pa_nil)) (nomark _))
      (pss_cons (ps_set (i := 4) scAs.nd rfl (Or.inl rfl) (pe_ix ix_list (pv 0) (pv 3) (fun _ _ => rfl)))
      (pss_cons (ps_set (i := 5) scAs.nd rfl (Or.inl rfl) (pe_op op_add (pe_op op_add (pv 3) pe_int) (pe_ix ix_tup (pe_glob (v := .ref tA) rfl TA.gA rfl) (pv 4) (fun _ _ => rfl))))
      (pss_cons (ps_set (i := 6) scAs.nd rfl (Or.inl rfl) (pe_m G T.cl hr (by decide) pass0 (pv 1) (pa_cons (pv 4) (pa_cons (pe_slice sl_list (pv 0) (po_some (pe_op op_add (pv 3) pe_int)) (po_some (pv 5))) pa_nil))))
      (pss_cons (ps_expr (pe_bm PySem.F.plainAttrs_list PySem.F.slot_list_append PySem.F.type_list_append mt_append (pv 2) (pa_cons (pe_callB call_len_seq (by rfl) TA.gN PySem.boot_len (pa_cons (pv 6) pa_nil)) pa_nil)))
      (pss_cons (ps_expr (pe_bm PySem.F.plainAttrs_list PySem.F.slot_list_extend PySem.F.type_list_extend mt_extend (pv 2) (pa_cons (pv 6) pa_nil)))
      (pss_one (ps_set (i := 3) scAs.nd rfl (Or.inl rfl) (pv 5)))))))))
    (pss_one (ps_ret (pv 2)))))), ?_⟩)
  · obtain ⟨a, ns, rfl, _⟩ := h
    rfl
  · obtain ⟨a, ns, rfl, hS, hlen, hpos, hask, k⟩ := h
    obtain ⟨raw, hraw, hsh⟩ := asked_is hask
    have hans := answers_is hraw
    -- desk = Desk()
    intro d dx nd ndx ne
    have s0 : Same H (upd (upd H dx (.own d)) d (.ins CK dx [])) := (same_upd ndx).trans (same_upd (by rw [upd_ne ne.symm]; exact nd))
    refine ⟨d, dx, rfl, upd_same, fun H1 k1 hd1 => ?_⟩
    have s1 : Same H H1 := fun b o e => k1 b o (s0 b o e) (by simpa using ne_of_none e nd)
    refine ⟨rfl, by show 0 ≤ sizeLine; decide, fun rp hrp => ?_⟩
    have s2 : Same H1 (upd H1 rp (.lst [])) := same_upd hrp
    have g2 : (upd H1 rp (.lst [])) rp = some (.lst []) := upd_same
    generalize upd H1 rp (.lst []) = H2 at s2 g2 ⊢
    have rpf : H rp = none := s1.free hrp
    have rpd : rp ≠ d := (ne_of_none hd1 hrp).symm
    refine while_by (fun σ H' => ∃ (pl : Nat) (v4 v5 v6 : Option V) (sv : V) (fa : List Addr) (st : Option Kqk1.Reservoir) (out : List Int) (m fu : Nat) (cs : List (List (List Int))), σ = [some (.ref a), some (.ref d), some (.ref rp), some (.int (pl : Int)), v4, v5, v6] ∧ pl ≤ ns.length ∧ Same H H' ∧ DeskAt CK C CP H' d sv fa st ∧ (∀ x ∈ fa, H x = none) ∧
        H' rp = some (.lst (out.map V.int)) ∧ rp ∉ fa ∧ GoodS m st ∧ m ≤ pl ∧ PyFlat.calls PyKqk1.shape fu (ns.drop pl) = some cs ∧ out ++ PyFlat.told (PyFlat.played Kqk1Neutral.step st cs) = PyKqk1.answers ns)
      (fun σ _ => match σ with | [_, _, _, some (.int p), _, _, _] => ns.length - p.toNat | _ => 0)
      ⟨0, none, none, none, .non, [], none, [], 0, _, raw, rfl, Nat.zero_le _, s1.trans s2, ⟨⟨dx, s2 _ _ hd1⟩, ⟨rfl, rfl⟩, by simp⟩, by simp, g2, by simp, (fun R z => nomatch z), Nat.zero_le _, hraw, hans.symm⟩ ?_ ?_
    · rintro σ H' ⟨pl, v4, v5, v6, sv, fa, st, out, m, fu, cs, rfl, hpl, s3, hD, hf, hrp', hrf, gS, hm, hcs, hout⟩
      have hS' := s3.seq hS
      refine ⟨_, rfl, _, rfl, a, _, rfl, .inl hS', _, _, rfl, rfl, _, rfl, ifB (fun c => ?_) (fun c => ?_)⟩
      · have c1 : (pl : Int) < (((ns.map V.int).length : Nat) : Int) := of_decide_eq_true c
        rw [List.length_map] at c1
        have hlt : pl < ns.length := by omega
        have hdrop : ns.drop pl = ns[pl] :: ns.drop (pl + 1) := List.drop_eq_getElem_cons hlt
        rw [hdrop] at hcs
        obtain ⟨n, fu', cs', hsh', hn, hcs', rfl⟩ := calls_cons hcs
        obtain ⟨_, p0, p20, pa⟩ := shape_is hsh'
        have hget : (ns.map V.int)[pl]? = some (.int ns[pl]) := by
          rw [List.getElem?_map, List.getElem?_eq_getElem hlt]
          rfl
        have hargc : (argc.map V.int)[(ns[pl]).toNat]? = some (.int (n : Int)) := by
          rw [List.getElem?_map, pa]
          rfl
        refine ⟨_, rfl, _, rfl, a, _, _, _, rfl, rfl, hS', atI_nat hget, ?_⟩
        refine ⟨_, rfl, _, _, rfl, rfl, _, rfl, tA, _, _, _, rfl, rfl, TA.tup H', at_of (j := (ns[pl]).toNat) (by omega) hargc, _, _, rfl, rfl, ?_⟩
        obtain ⟨dx', hd'⟩ := hD.obj
        refine ⟨_, rfl, d, dx', _, rfl, hd', dF_no (by decide +kernel), _, rfl, _, rfl, _, rfl, _, _, rfl, rfl, _, rfl, _, rfl, _, rfl, a, _, rfl, hS', fun al hal => ?_⟩
        rw [cut_mid hdrop hn]
        have s4 : Same H' (upd H' al (.lst (((ns.drop (pl + 1)).take n).map V.int))) := same_upd hal
        have g4 : (upd H' al (.lst (((ns.drop (pl + 1)).take n).map V.int))) al = some (.lst (((ns.drop (pl + 1)).take n).map V.int)) := upd_same
        generalize upd H' al (.lst (((ns.drop (pl + 1)).take n).map V.int)) = H4 at s4 g4 ⊢
        have hxl : ((ns.drop (pl + 1)).take n).length = n := by
          rw [List.length_take]
          omega
        obtain ⟨q, hq⟩ := request_is hsh' hxl
        have hst := step_is (s := st) hq
        have hD4 := hD.same s4
        refine ⟨d, sv, fa, st, al, (ns.drop (pl + 1)).take n, q, ns[pl], m, rfl, g4, fun x hx => hpos x (List.mem_of_mem_drop (List.mem_of_mem_take hx)), hq, p0, by omega, hD4, gS, by omega, fun s' res hs H5 sv' fa' l k5 hD5 sub5 hl5 h5 => ?_⟩
        rw [hs] at hst
        have hout2 : PyKqk1.answers ns = out ++ (((fields res).length : Int) :: (fields res ++ PyFlat.told (PyFlat.played Kqk1Neutral.step s' cs'))) := by
          rw [← hout]
          show out ++ PyFlat.told ((Kqk1Neutral.step st [ns[pl] :: (ns.drop (pl + 1)).take n]).2 :: PyFlat.played Kqk1Neutral.step (Kqk1Neutral.step st [ns[pl] :: (ns.drop (pl + 1)).take n]).1 cs') = _
          rw [told_cons, hst]
        have hbig : out.length + 1 + (fields res).length ≤ 10000000 := by
          rw [hout2] at hsh
          rw [List.length_append, List.length_cons, List.length_append] at hsh
          omega
        have rpfa : rp ∉ d :: fa := fun z => by
          rcases List.mem_cons.mp z with z | z
          · exact rpd z
          · exact hrf z
        have rp5 : H5 rp = some (.lst (out.map V.int)) := k5 _ _ (s4 _ _ hrp') rpfa
        have lrp : l ≠ rp := fun z => by
          rcases hl5 with h | h
          · rw [z] at h
            exact hrf h
          · rw [z, s4 _ _ hrp'] at h
            cases h
        have dfree : ∀ x ∈ d :: fa, ∀ o, H x = some o → False := fun x hx o e => by
          rcases List.mem_cons.mp hx with rfl | hx
          · rw [nd] at e
            cases e
          · rw [hf x hx] at e
            cases e
        have s5 : Same H H5 := fun b o e => k5 b o (s4 b o (s3 b o e)) fun z => dfree b z o e
        have f5 : ∀ x ∈ fa', H x = none := fun x hx => by
          rcases sub5 x hx with h | h
          · exact hf x h
          · exact (s3.trans s4).free h
        have rp5' : rp ∉ fa' := fun z => by
          rcases sub5 rp z with h | h
          · exact hrf h
          · rw [s4 _ _ hrp'] at h
            cases h
        -- replies.append(len(answer))
        refine ⟨_, rfl, .inl ⟨rfl, _, .inl (.inl rp5)⟩, _, rfl, l, _, rfl, .inl (SqL.of h5), rp, _, _, rfl, rfl, rp5, by show (out.map V.int).length < 16777216; rw [List.length_map]; omega, ?_⟩
        have nt5 : ∀ b ∈ [rp], ∀ o, H5 b = some o → isTup o = false := by
          intro x hx o e
          have z : x = rp := by simpa using hx
          rw [z, rp5] at e
          cases e
          rfl
        have k6 : Keep [rp] H5 (upd H5 rp (.lst (out.map V.int ++ [.int (((fields res).map V.int).length : Int)]))) := Keep.put (by simp)
        have g6 : (upd H5 rp (.lst (out.map V.int ++ [.int (((fields res).map V.int).length : Int)]))) rp = some (.lst (out.map V.int ++ [.int (((fields res).map V.int).length : Int)])) := upd_same
        generalize upd H5 rp (.lst (out.map V.int ++ [.int (((fields res).map V.int).length : Int)])) = H6 at k6 g6 ⊢
        have h6 := k6 _ _ h5 (by simpa using lrp)
        -- replies.extend(answer)
        refine ⟨_, rfl, .inl ⟨rfl, _, .inl (.inl g6)⟩, _, rfl, rp, l, _, _, rfl, rfl, g6, h6, ?_, ?_⟩
        · show (out.map V.int ++ [V.int _]).length + ((fields res).map V.int).length ≤ 16777216
          rw [List.length_append, List.length_map, List.length_map]
          show out.length + 1 + (fields res).length ≤ 16777216
          omega
        have nt6 : ∀ b ∈ [rp], ∀ o, H6 b = some o → isTup o = false := by
          intro x hx o e
          have z : x = rp := by simpa using hx
          rw [z, g6] at e
          cases e
          rfl
        have k7 : Keep [rp] H6 (upd H6 rp (.lst (out.map V.int ++ [.int (((fields res).map V.int).length : Int)] ++ (fields res).map V.int))) := Keep.put (by simp)
        have k57 := k6.trans k7
        have rfree : ∀ x ∈ [rp], ∀ o, H x = some o → False := fun x hx o e => by
          have z : x = rp := by simpa using hx
          rw [z, rpf] at e
          cases e
        have gS' : GoodS (m + 1) s' := by
          have := good_step gS q
          rw [hs] at this
          exact this
        refine ⟨_, rfl, ⟨pl + 1 + n, some (.int ns[pl]), some (.int ((pl : Int) + 1 + (n : Int))), some (.ref l), sv', fa', s', out ++ (((fields res).length : Int) :: fields res), m + 1, fu', cs', ?_, ?_, fun b o e => k57 b o (s5 b o e) (fun z => rfree b z o e), ?_, f5, ?_, rp5', gS', by omega, ?_, ?_⟩, ?_⟩
        · have e : (pl : Int) + 1 + (n : Int) = ((pl + 1 + n : Nat) : Int) := by omega
          rw [← e]
          rfl
        · have := List.length_drop (l := ns) (i := pl + 1)
          omega
        · obtain ⟨⟨dx5, o5⟩, h5', nd5⟩ := hD5
          have dr : d ∉ [rp] := by simpa using rpd.symm
          refine ⟨⟨dx5, k57 _ _ o5 dr⟩, ?_, nd5⟩
          cases s' with
          | none => exact h5'
          | some R' =>
            obtain ⟨r', e', hR'⟩ := h5'
            exact ⟨r', e', hR'.keep k57 nt5 (apart_r rp5')⟩
        · rw [upd_same, List.length_map]
          simp only [List.map_append, List.map_cons, List.append_assoc]
          rfl
        · rw [List.drop_drop] at hcs'
          exact hcs'
        · rw [hout2]
          simp only [List.append_assoc, List.cons_append]
        · show ns.length - ((pl : Int) + 1 + (n : Int)).toNat < ns.length - (pl : Int).toNat
          omega
      · have c1 : ¬ (pl : Int) < (((ns.map V.int).length : Nat) : Int) := of_decide_eq_false c
        rw [List.length_map] at c1
        have e : pl = ns.length := by omega
        subst e
        rw [List.drop_length] at hcs
        have ecs : cs = [] := by
          cases fu <;> exact (Option.some.inj hcs).symm
        subst ecs
        refine ⟨_, rfl, k H' rp ?_⟩
        have e2 : out = PyKqk1.answers ns := by
          rw [← hout]
          show out = out ++ []
          rw [List.append_nil]
        rw [← e2]
        exact hrp'
    · rintro σ H' Q' Q'' i ⟨v, e, v', e', a', xs', e1, e2, b, b', e3, e4, z, e5, h⟩
      exact ⟨v, e, v', e', a', xs', e1, e2, b, b', e3, e4, z, e5, i _ _ h⟩
end
end CF
namespace CF
open PySem PySem.Spec PyProof.Rows L2
open PySem.W (Codec)
/-- of an error of the class at S, a clause that names the class at S2 -/
theorem exm_of {K : PySem.W.Frag} {S S2 : Addr} {b : Bool} (h1 : PySem.W.subIn K (.ref S2) (.type "BaseException") = some true) (h2 : PySem.W.isClsIn K S2 = true) (h3 : PySem.W.typeIn K (.ref S2) = some (.type "type")) (h4 : PySem.W.subIn K (.ref S) (.ref S2) = some b) :
    PySem.W.exmOne K (.ref S) (.ref S2) = some b := by
  have e1 : (PySem.W.subIn K (.ref S2) (.type "BaseException") == some true) = true := by rw [h1] <;> rfl
  have e2 : ((PySem.W.clsIn K S2).isSome && PySem.W.typeIn K (.ref S2) == some (.type "type")) = true := by
    have h2' : (PySem.W.clsIn K S2).isSome = true := h2
    rw [h2', h3] <;> rfl
  show (if (PySem.W.subIn K (.ref S2) (.type "BaseException") == some true) = true then (if ((PySem.W.clsIn K S2).isSome && PySem.W.typeIn K (.ref S2) == some (.type "type")) = true then PySem.W.subIn K (.ref S) (.ref S2) else none) else none) = some b
  rw [if_pos e1, if_pos e2]
  exact h4
theorem all_mk (hkM : (20 : Int) ≤ kM) {P : Program} {w : World} {K : PySem.W.Frag} {h : Heap} {mg : Str → Option Value} {fa : Addr} (X : K.In h) (G : h.Ns mainGlobals mg) (hfa : mg "answers" = some (.ref fa))
    {CR : Addr} {CC : Addr} {CO : Addr} {CN : Addr} {CF : Addr} {CD : Addr} {CB : Addr} {CP : Addr} {C : Addr} {CK : Addr} {tk0 : Tok} {tk1 : Tok} {tk2 : Tok} {tk3 : Tok} {tk4 : Tok} {tk5 : Tok} {tk6 : Tok} {tk7 : Tok} {tk8 : Tok} {ocgcd : Value} {odgcd : Option Addr} {kVgcd : Value} {dcgcd : Value} {pmgcd : Value} {angcd : Option Addr} {cdgcd : Value} {ctgcd : Value} {slgcd : Array (Option Value)} {fgcd : Addr} {oclow : Value} {odlow : Option Addr} {kVlow : Value} {dclow : Value} {pmlow : Value} {anlow : Option Addr} {cdlow : Value} {ctlow : Value} {sllow : Array (Option Value)} {flow : Addr} {ocwho : Value} {odwho : Option Addr} {kVwho : Value} {dcwho : Value} {pmwho : Value} {anwho : Option Addr} {cdwho : Value} {ctwho : Value} {slwho : Array (Option Value)} {fwho : Addr} {ocadt : Value} {odadt : Option Addr} {kVadt : Value} {dcadt : Value} {pmadt : Value} {anadt : Option Addr} {cdadt : Value} {ctadt : Value} {sladt : Array (Option Value)} {fadt : Addr} {ocadd : Value} {odadd : Option Addr} {kVadd : Value} {dcadd : Value} {pmadd : Value} {anadd : Option Addr} {cdadd : Value} {ctadd : Value} {sladd : Array (Option Value)} {fadd : Addr} {ocwm : Value} {odwm : Option Addr} {kVwm : Value} {dcwm : Value} {pmwm : Value} {anwm : Option Addr} {cdwm : Value} {ctwm : Value} {slwm : Array (Option Value)} {fwm : Addr} {ocmea : Value} {odmea : Option Addr} {kVmea : Value} {dcmea : Value} {pmmea : Value} {anmea : Option Addr} {cdmea : Value} {ctmea : Value} {slmea : Array (Option Value)} {fmea : Addr} {ocles : Value} {odles : Option Addr} {kVles : Value} {dcles : Value} {pmles : Value} {anles : Option Addr} {cdles : Value} {ctles : Value} {slles : Array (Option Value)} {fles : Addr} {ocgre : Value} {odgre : Option Addr} {kVgre : Value} {dcgre : Value} {pmgre : Value} {angre : Option Addr} {cdgre : Value} {ctgre : Value} {slgre : Array (Option Value)} {fgre : Addr} {ocsma : Value} {odsma : Option Addr} {kVsma : Value} {dcsma : Value} {pmsma : Value} {ansma : Option Addr} {cdsma : Value} {ctsma : Value} {slsma : Array (Option Value)} {fsma : Addr} {ocmes : Value} {odmes : Option Addr} {kVmes : Value} {dcmes : Value} {pmmes : Value} {anmes : Option Addr} {cdmes : Value} {ctmes : Value} {slmes : Array (Option Value)} {fmes : Addr} {ocwfr : Value} {odwfr : Option Addr} {kVwfr : Value} {dcwfr : Value} {pmwfr : Value} {anwfr : Option Addr} {cdwfr : Value} {ctwfr : Value} {slwfr : Array (Option Value)} {fwfr : Addr} {ocran : Value} {odran : Option Addr} {kVran : Value} {dcran : Value} {pmran : Value} {anran : Option Addr} {cdran : Value} {ctran : Value} {slran : Array (Option Value)} {fran : Addr} {ocden : Value} {odden : Option Addr} {kVden : Value} {dcden : Value} {pmden : Value} {anden : Option Addr} {cdden : Value} {ctden : Value} {slden : Array (Option Value)} {fden : Addr} {oco1 : Value} {odo1 : Option Addr} {kVo1 : Value} {dco1 : Value} {pmo1 : Value} {ano1 : Option Addr} {cdo1 : Value} {cto1 : Value} {slo1 : Array (Option Value)} {fo1 : Addr} {oco2 : Value} {odo2 : Option Addr} {kVo2 : Value} {dco2 : Value} {pmo2 : Value} {ano2 : Option Addr} {cdo2 : Value} {cto2 : Value} {slo2 : Array (Option Value)} {fo2 : Addr} {oco3 : Value} {odo3 : Option Addr} {kVo3 : Value} {dco3 : Value} {pmo3 : Value} {ano3 : Option Addr} {cdo3 : Value} {cto3 : Value} {slo3 : Array (Option Value)} {fo3 : Addr} {oco4 : Value} {odo4 : Option Addr} {kVo4 : Value} {dco4 : Value} {pmo4 : Value} {ano4 : Option Addr} {cdo4 : Value} {cto4 : Value} {slo4 : Array (Option Value)} {fo4 : Addr} {oco5 : Value} {odo5 : Option Addr} {kVo5 : Value} {dco5 : Value} {pmo5 : Value} {ano5 : Option Addr} {cdo5 : Value} {cto5 : Value} {slo5 : Array (Option Value)} {fo5 : Addr} {oco6 : Value} {odo6 : Option Addr} {kVo6 : Value} {dco6 : Value} {pmo6 : Value} {ano6 : Option Addr} {cdo6 : Value} {cto6 : Value} {slo6 : Array (Option Value)} {fo6 : Addr} {oco7 : Value} {odo7 : Option Addr} {kVo7 : Value} {dco7 : Value} {pmo7 : Value} {ano7 : Option Addr} {cdo7 : Value} {cto7 : Value} {slo7 : Array (Option Value)} {fo7 : Addr} {oco8 : Value} {odo8 : Option Addr} {kVo8 : Value} {dco8 : Value} {pmo8 : Value} {ano8 : Option Addr} {cdo8 : Value} {cto8 : Value} {slo8 : Array (Option Value)} {fo8 : Addr} {oco9 : Value} {odo9 : Option Addr} {kVo9 : Value} {dco9 : Value} {pmo9 : Value} {ano9 : Option Addr} {cdo9 : Value} {cto9 : Value} {slo9 : Array (Option Value)} {fo9 : Addr} {oco10 : Value} {odo10 : Option Addr} {kVo10 : Value} {dco10 : Value} {pmo10 : Value} {ano10 : Option Addr} {cdo10 : Value} {cto10 : Value} {slo10 : Array (Option Value)} {fo10 : Addr} {oco11 : Value} {odo11 : Option Addr} {kVo11 : Value} {dco11 : Value} {pmo11 : Value} {ano11 : Option Addr} {cdo11 : Value} {cto11 : Value} {slo11 : Array (Option Value)} {fo11 : Addr} {oco12 : Value} {odo12 : Option Addr} {kVo12 : Value} {dco12 : Value} {pmo12 : Value} {ano12 : Option Addr} {cdo12 : Value} {cto12 : Value} {slo12 : Array (Option Value)} {fo12 : Addr} {oco13 : Value} {odo13 : Option Addr} {kVo13 : Value} {dco13 : Value} {pmo13 : Value} {ano13 : Option Addr} {cdo13 : Value} {cto13 : Value} {slo13 : Array (Option Value)} {fo13 : Addr} {oco14 : Value} {odo14 : Option Addr} {kVo14 : Value} {dco14 : Value} {pmo14 : Value} {ano14 : Option Addr} {cdo14 : Value} {cto14 : Value} {slo14 : Array (Option Value)} {fo14 : Addr} {oco15 : Value} {odo15 : Option Addr} {kVo15 : Value} {dco15 : Value} {pmo15 : Value} {ano15 : Option Addr} {cdo15 : Value} {cto15 : Value} {slo15 : Array (Option Value)} {fo15 : Addr} {oco16 : Value} {odo16 : Option Addr} {kVo16 : Value} {dco16 : Value} {pmo16 : Value} {ano16 : Option Addr} {cdo16 : Value} {cto16 : Value} {slo16 : Array (Option Value)} {fo16 : Addr} {oco17 : Value} {odo17 : Option Addr} {kVo17 : Value} {dco17 : Value} {pmo17 : Value} {ano17 : Option Addr} {cdo17 : Value} {cto17 : Value} {slo17 : Array (Option Value)} {fo17 : Addr} {oco18 : Value} {odo18 : Option Addr} {kVo18 : Value} {dco18 : Value} {pmo18 : Value} {ano18 : Option Addr} {cdo18 : Value} {cto18 : Value} {slo18 : Array (Option Value)} {fo18 : Addr} {oco19 : Value} {odo19 : Option Addr} {kVo19 : Value} {dco19 : Value} {pmo19 : Value} {ano19 : Option Addr} {cdo19 : Value} {cto19 : Value} {slo19 : Array (Option Value)} {fo19 : Addr} {oco20 : Value} {odo20 : Option Addr} {kVo20 : Value} {dco20 : Value} {pmo20 : Value} {ano20 : Option Addr} {cdo20 : Value} {cto20 : Value} {slo20 : Array (Option Value)} {fo20 : Addr} {ocPini : Value} {odPini : Option Addr} {kVPini : Value} {dcPini : Value} {pmPini : Value} {anPini : Option Addr} {cdPini : Value} {ctPini : Value} {slPini : Array (Option Value)} {fPini : Addr} {ocPtwi : Value} {odPtwi : Option Addr} {kVPtwi : Value} {dcPtwi : Value} {pmPtwi : Value} {anPtwi : Option Addr} {cdPtwi : Value} {ctPtwi : Value} {slPtwi : Array (Option Value)} {fPtwi : Addr} {ocPcnt : Value} {odPcnt : Option Addr} {kVPcnt : Value} {dcPcnt : Value} {pmPcnt : Value} {anPcnt : Option Addr} {cdPcnt : Value} {ctPcnt : Value} {slPcnt : Array (Option Value)} {fPcnt : Addr} {ocPset : Value} {odPset : Option Addr} {kVPset : Value} {dcPset : Value} {pmPset : Value} {anPset : Option Addr} {cdPset : Value} {ctPset : Value} {slPset : Array (Option Value)} {fPset : Addr} {ocPequ : Value} {odPequ : Option Addr} {kVPequ : Value} {dcPequ : Value} {pmPequ : Value} {anPequ : Option Addr} {cdPequ : Value} {ctPequ : Value} {slPequ : Array (Option Value)} {fPequ : Addr} {ocPmov : Value} {odPmov : Option Addr} {kVPmov : Value} {dcPmov : Value} {pmPmov : Value} {anPmov : Option Addr} {cdPmov : Value} {ctPmov : Value} {slPmov : Array (Option Value)} {fPmov : Addr} {ocPtem : Value} {odPtem : Option Addr} {kVPtem : Value} {dcPtem : Value} {pmPtem : Value} {anPtem : Option Addr} {cdPtem : Value} {ctPtem : Value} {slPtem : Array (Option Value)} {fPtem : Addr} {ocPhea : Value} {odPhea : Option Addr} {kVPhea : Value} {dcPhea : Value} {pmPhea : Value} {anPhea : Option Addr} {cdPhea : Value} {ctPhea : Value} {slPhea : Array (Option Value)} {fPhea : Addr} {ocPuni : Value} {odPuni : Option Addr} {kVPuni : Value} {dcPuni : Value} {pmPuni : Value} {anPuni : Option Addr} {cdPuni : Value} {ctPuni : Value} {slPuni : Array (Option Value)} {fPuni : Addr} {ocPsam : Value} {odPsam : Option Addr} {kVPsam : Value} {dcPsam : Value} {pmPsam : Value} {anPsam : Option Addr} {cdPsam : Value} {ctPsam : Value} {slPsam : Array (Option Value)} {fPsam : Addr} {ocPnow : Value} {odPnow : Option Addr} {kVPnow : Value} {dcPnow : Value} {pmPnow : Value} {anPnow : Option Addr} {cdPnow : Value} {ctPnow : Value} {slPnow : Array (Option Value)} {fPnow : Addr} {ocPmea : Value} {odPmea : Option Addr} {kVPmea : Value} {dcPmea : Value} {pmPmea : Value} {anPmea : Option Addr} {cdPmea : Value} {ctPmea : Value} {slPmea : Array (Option Value)} {fPmea : Addr} {ocPtur : Value} {odPtur : Option Addr} {kVPtur : Value} {dcPtur : Value} {pmPtur : Value} {anPtur : Option Addr} {cdPtur : Value} {ctPtur : Value} {slPtur : Array (Option Value)} {fPtur : Addr} {ocRini : Value} {odRini : Option Addr} {kVRini : Value} {dcRini : Value} {pmRini : Value} {anRini : Option Addr} {cdRini : Value} {ctRini : Value} {slRini : Array (Option Value)} {fRini : Addr} {ocRcnt : Value} {odRcnt : Option Addr} {kVRcnt : Value} {dcRcnt : Value} {pmRcnt : Value} {anRcnt : Option Addr} {cdRcnt : Value} {ctRcnt : Value} {slRcnt : Array (Option Value)} {fRcnt : Addr} {ocRchk : Value} {odRchk : Option Addr} {kVRchk : Value} {dcRchk : Value} {pmRchk : Value} {anRchk : Option Addr} {cdRchk : Value} {ctRchk : Value} {slRchk : Array (Option Value)} {fRchk : Addr} {ocRcap : Value} {odRcap : Option Addr} {kVRcap : Value} {dcRcap : Value} {pmRcap : Value} {anRcap : Option Addr} {cdRcap : Value} {ctRcap : Value} {slRcap : Array (Option Value)} {fRcap : Addr} {ocRset : Value} {odRset : Option Addr} {kVRset : Value} {dcRset : Value} {pmRset : Value} {anRset : Option Addr} {cdRset : Value} {ctRset : Value} {slRset : Array (Option Value)} {fRset : Addr} {ocRall : Value} {odRall : Option Addr} {kVRall : Value} {dcRall : Value} {pmRall : Value} {anRall : Option Addr} {cdRall : Value} {ctRall : Value} {slRall : Array (Option Value)} {fRall : Addr} {ocRinj : Value} {odRinj : Option Addr} {kVRinj : Value} {dcRinj : Value} {pmRinj : Value} {anRinj : Option Addr} {cdRinj : Value} {ctRinj : Value} {slRinj : Array (Option Value)} {fRinj : Addr} {ocRman : Value} {odRman : Option Addr} {kVRman : Value} {dcRman : Value} {pmRman : Value} {anRman : Option Addr} {cdRman : Value} {ctRman : Value} {slRman : Array (Option Value)} {fRman : Addr} {ocRadv : Value} {odRadv : Option Addr} {kVRadv : Value} {dcRadv : Value} {pmRadv : Value} {anRadv : Option Addr} {cdRadv : Value} {ctRadv : Value} {slRadv : Array (Option Value)} {fRadv : Addr} {ocRequ : Value} {odRequ : Option Addr} {kVRequ : Value} {dcRequ : Value} {pmRequ : Value} {anRequ : Option Addr} {cdRequ : Value} {ctRequ : Value} {slRequ : Array (Option Value)} {fRequ : Addr} {ocRfor : Value} {odRfor : Option Addr} {kVRfor : Value} {dcRfor : Value} {pmRfor : Value} {anRfor : Option Addr} {cdRfor : Value} {ctRfor : Value} {slRfor : Array (Option Value)} {fRfor : Addr} {ocRget : Value} {odRget : Option Addr} {kVRget : Value} {dcRget : Value} {pmRget : Value} {anRget : Option Addr} {cdRget : Value} {ctRget : Value} {slRget : Array (Option Value)} {fRget : Addr} {ocRhea : Value} {odRhea : Option Addr} {kVRhea : Value} {dcRhea : Value} {pmRhea : Value} {anRhea : Option Addr} {cdRhea : Value} {ctRhea : Value} {slRhea : Array (Option Value)} {fRhea : Addr} {ocRhas : Value} {odRhas : Option Addr} {kVRhas : Value} {dcRhas : Value} {pmRhas : Value} {anRhas : Option Addr} {cdRhas : Value} {ctRhas : Value} {slRhas : Array (Option Value)} {fRhas : Addr} {ocRchs : Value} {odRchs : Option Addr} {kVRchs : Value} {dcRchs : Value} {pmRchs : Value} {anRchs : Option Addr} {cdRchs : Value} {ctRchs : Value} {slRchs : Array (Option Value)} {fRchs : Addr} {ocRbal : Value} {odRbal : Option Addr} {kVRbal : Value} {dcRbal : Value} {pmRbal : Value} {anRbal : Option Addr} {cdRbal : Value} {ctRbal : Value} {slRbal : Array (Option Value)} {fRbal : Addr} {ocRhot : Value} {odRhot : Option Addr} {kVRhot : Value} {dcRhot : Value} {pmRhot : Value} {anRhot : Option Addr} {cdRhot : Value} {ctRhot : Value} {slRhot : Array (Option Value)} {fRhot : Addr} {ocRcol : Value} {odRcol : Option Addr} {kVRcol : Value} {dcRcol : Value} {pmRcol : Value} {anRcol : Option Addr} {cdRcol : Value} {ctRcol : Value} {slRcol : Array (Option Value)} {fRcol : Addr} {ocRbrk : Value} {odRbrk : Option Addr} {kVRbrk : Value} {dcRbrk : Value} {pmRbrk : Value} {anRbrk : Option Addr} {cdRbrk : Value} {ctRbrk : Value} {slRbrk : Array (Option Value)} {fRbrk : Addr} {ocRsav : Value} {odRsav : Option Addr} {kVRsav : Value} {dcRsav : Value} {pmRsav : Value} {anRsav : Option Addr} {cdRsav : Value} {ctRsav : Value} {slRsav : Array (Option Value)} {fRsav : Addr} {ocRcmp : Value} {odRcmp : Option Addr} {kVRcmp : Value} {dcRcmp : Value} {pmRcmp : Value} {anRcmp : Option Addr} {cdRcmp : Value} {ctRcmp : Value} {slRcmp : Array (Option Value)} {fRcmp : Addr} {ocRavg : Value} {odRavg : Option Addr} {kVRavg : Value} {dcRavg : Value} {pmRavg : Value} {anRavg : Option Addr} {cdRavg : Value} {ctRavg : Value} {slRavg : Array (Option Value)} {fRavg : Addr} {ocRrev : Value} {odRrev : Option Addr} {kVRrev : Value} {dcRrev : Value} {pmRrev : Value} {anRrev : Option Addr} {cdRrev : Value} {ctRrev : Value} {slRrev : Array (Option Value)} {fRrev : Addr} {ocRexc : Value} {odRexc : Option Addr} {kVRexc : Value} {dcRexc : Value} {pmRexc : Value} {anRexc : Option Addr} {cdRexc : Value} {ctRexc : Value} {slRexc : Array (Option Value)} {fRexc : Addr} {ocKini : Value} {odKini : Option Addr} {kVKini : Value} {dcKini : Value} {pmKini : Value} {anKini : Option Addr} {cdKini : Value} {ctKini : Value} {slKini : Array (Option Value)} {fKini : Addr} {ocKcar : Value} {odKcar : Option Addr} {kVKcar : Value} {dcKcar : Value} {pmKcar : Value} {anKcar : Option Addr} {cdKcar : Value} {ctKcar : Value} {slKcar : Array (Option Value)} {fKcar : Addr} {ocKans : Value} {odKans : Option Addr} {kVKans : Value} {dcKans : Value} {pmKans : Value} {anKans : Option Addr} {cdKans : Value} {ctKans : Value} {slKans : Array (Option Value)} {fKans : Addr} {dO : Addr} {esO : Array DictEntry} {nO : Nat} {tA : Addr} {ddA : Option Addr} {itA : Array Value} {nA : Nat} {slA : Array (Option Value)} {ocAns : Value} {odAns : Option Addr} {kVAns : Value} {dcAns : Value} {pmAns : Value} {anAns : Option Addr} {cdAns : Value} {ctAns : Value} {slAns : Array (Option Value)} {fAns : Addr}
    (gTX0 : PySem.W.nsIn K mainGlobals "NoReservoir" = some (some (.ref CR)))
    (xTX0 : PySem.W.excIn K CR [.type "Exception", .type "BaseException", .type "object"] "Exception.__new__" = true)
    (pTX0 : PySem.W.keepIn K (.ref CR) = true)
    (sTX0 : PySem.W.subIn K (.ref CR) (.type "BaseException") = some true)
    (tTX0 : PySem.W.typeIn K (.ref CR) = some (.type "type"))
    (iTX0 : PySem.W.isClsIn K CR = true)
    (gTC : PySem.W.nsIn K mainGlobals "NoSuchCell" = some (some (.ref CC)))
    (xTC : PySem.W.excIn K CC [.type "Exception", .type "BaseException", .type "object"] "Exception.__new__" = true)
    (pTC : PySem.W.keepIn K (.ref CC) = true)
    (sTC : PySem.W.subIn K (.ref CC) (.type "BaseException") = some true)
    (tTC : PySem.W.typeIn K (.ref CC) = some (.type "type"))
    (iTC : PySem.W.isClsIn K CC = true)
    (gTO : PySem.W.nsIn K mainGlobals "OutOfRange" = some (some (.ref CO)))
    (xTO : PySem.W.excIn K CO [.type "Exception", .type "BaseException", .type "object"] "Exception.__new__" = true)
    (pTO : PySem.W.keepIn K (.ref CO) = true)
    (sTO : PySem.W.subIn K (.ref CO) (.type "BaseException") = some true)
    (tTO : PySem.W.typeIn K (.ref CO) = some (.type "type"))
    (iTO : PySem.W.isClsIn K CO = true)
    (gTN : PySem.W.nsIn K mainGlobals "NoSavedProfile" = some (some (.ref CN)))
    (xTN : PySem.W.excIn K CN [.type "Exception", .type "BaseException", .type "object"] "Exception.__new__" = true)
    (pTN : PySem.W.keepIn K (.ref CN) = true)
    (sTN : PySem.W.subIn K (.ref CN) (.type "BaseException") = some true)
    (tTN : PySem.W.typeIn K (.ref CN) = some (.type "type"))
    (iTN : PySem.W.isClsIn K CN = true)
    (gTF : PySem.W.nsIn K mainGlobals "DifferentCells" = some (some (.ref CF)))
    (xTF : PySem.W.excIn K CF [.type "Exception", .type "BaseException", .type "object"] "Exception.__new__" = true)
    (pTF : PySem.W.keepIn K (.ref CF) = true)
    (sTF : PySem.W.subIn K (.ref CF) (.type "BaseException") = some true)
    (tTF : PySem.W.typeIn K (.ref CF) = some (.type "type"))
    (iTF : PySem.W.isClsIn K CF = true)
    (gTD : PySem.W.nsIn K mainGlobals "DenominatorTooLarge" = some (some (.ref CD)))
    (xTD : PySem.W.excIn K CD [.type "Exception", .type "BaseException", .type "object"] "Exception.__new__" = true)
    (pTD : PySem.W.keepIn K (.ref CD) = true)
    (sTD : PySem.W.subIn K (.ref CD) (.type "BaseException") = some true)
    (tTD : PySem.W.typeIn K (.ref CD) = some (.type "type"))
    (iTD : PySem.W.isClsIn K CD = true)
    (gTB : PySem.W.nsIn K mainGlobals "NoBreakthrough" = some (some (.ref CB)))
    (xTB : PySem.W.excIn K CB [.type "Exception", .type "BaseException", .type "object"] "Exception.__new__" = true)
    (pTB : PySem.W.keepIn K (.ref CB) = true)
    (sTB : PySem.W.subIn K (.ref CB) (.type "BaseException") = some true)
    (tTB : PySem.W.typeIn K (.ref CB) = some (.type "type"))
    (iTB : PySem.W.isClsIn K CB = true)
    (e00 : PySem.W.subIn K (.ref CR) (.ref CR) = some true)
    (e10 : PySem.W.subIn K (.ref CC) (.ref CR) = some false)
    (e11 : PySem.W.subIn K (.ref CC) (.ref CC) = some true)
    (e20 : PySem.W.subIn K (.ref CO) (.ref CR) = some false)
    (e21 : PySem.W.subIn K (.ref CO) (.ref CC) = some false)
    (e22 : PySem.W.subIn K (.ref CO) (.ref CO) = some true)
    (e30 : PySem.W.subIn K (.ref CN) (.ref CR) = some false)
    (e31 : PySem.W.subIn K (.ref CN) (.ref CC) = some false)
    (e32 : PySem.W.subIn K (.ref CN) (.ref CO) = some false)
    (e33 : PySem.W.subIn K (.ref CN) (.ref CN) = some true)
    (e40 : PySem.W.subIn K (.ref CF) (.ref CR) = some false)
    (e41 : PySem.W.subIn K (.ref CF) (.ref CC) = some false)
    (e42 : PySem.W.subIn K (.ref CF) (.ref CO) = some false)
    (e43 : PySem.W.subIn K (.ref CF) (.ref CN) = some false)
    (e44 : PySem.W.subIn K (.ref CF) (.ref CF) = some true)
    (e50 : PySem.W.subIn K (.ref CD) (.ref CR) = some false)
    (e51 : PySem.W.subIn K (.ref CD) (.ref CC) = some false)
    (e52 : PySem.W.subIn K (.ref CD) (.ref CO) = some false)
    (e53 : PySem.W.subIn K (.ref CD) (.ref CN) = some false)
    (e54 : PySem.W.subIn K (.ref CD) (.ref CF) = some false)
    (e55 : PySem.W.subIn K (.ref CD) (.ref CD) = some true)
    (e60 : PySem.W.subIn K (.ref CB) (.ref CR) = some false)
    (e61 : PySem.W.subIn K (.ref CB) (.ref CC) = some false)
    (e62 : PySem.W.subIn K (.ref CB) (.ref CO) = some false)
    (e63 : PySem.W.subIn K (.ref CB) (.ref CN) = some false)
    (e64 : PySem.W.subIn K (.ref CB) (.ref CF) = some false)
    (e65 : PySem.W.subIn K (.ref CB) (.ref CD) = some false)
    (e66 : PySem.W.subIn K (.ref CB) (.ref CB) = some true)
    (aCP : PySem.W.nsIn K mainGlobals "Profile" = some (some (.ref CP)))
    (pgP : PySem.W.plainGet K CP Str.empty = true)
    (hdP : PySem.W.hasDictIn K CP = true)
    (poP : PySem.W.plainOver K CP = true)
    (saP : PySem.W.findIn K (.ref CP) "__setattr__" = some (some (.builtin "object.__setattr__")))
    (mkP : PySem.W.makesIn K CP = true)
    (kcP : PySem.W.keepIn K (.ref CP) = true)
    (nP0 : PySem.W.findIn K (.ref CP) "rock_capacities" = some none)
    (nP1 : PySem.W.findIn K (.ref CP) "rock_temperatures" = some none)
    (nP2 : PySem.W.findIn K (.ref CP) "water_temperatures" = some none)
    (aCR : PySem.W.nsIn K mainGlobals "Reservoir" = some (some (.ref C)))
    (pgR : PySem.W.plainGet K C Str.empty = true)
    (hdR : PySem.W.hasDictIn K C = true)
    (poR : PySem.W.plainOver K C = true)
    (saR : PySem.W.findIn K (.ref C) "__setattr__" = some (some (.builtin "object.__setattr__")))
    (mkR : PySem.W.makesIn K C = true)
    (kcR : PySem.W.keepIn K (.ref C) = true)
    (nR0 : PySem.W.findIn K (.ref C) "profile" = some none)
    (nR1 : PySem.W.findIn K (.ref C) "injection_temperature" = some none)
    (nR2 : PySem.W.findIn K (.ref C) "injected_sum" = some none)
    (nR3 : PySem.W.findIn K (.ref C) "produced_sum" = some none)
    (nR4 : PySem.W.findIn K (.ref C) "produced_count" = some none)
    (nR5 : PySem.W.findIn K (.ref C) "saved_profile" = some none)
    (aCK : PySem.W.nsIn K mainGlobals "Desk" = some (some (.ref CK)))
    (pgK : PySem.W.plainGet K CK Str.empty = true)
    (hdK : PySem.W.hasDictIn K CK = true)
    (poK : PySem.W.plainOver K CK = true)
    (saK : PySem.W.findIn K (.ref CK) "__setattr__" = some (some (.builtin "object.__setattr__")))
    (mkK : PySem.W.makesIn K CK = true)
    (kcK : PySem.W.keepIn K (.ref CK) = true)
    (nK0 : PySem.W.findIn K (.ref CK) "reservoir" = some none)
    (m0 : PySem.W.nsIn K mainGlobals "MOST_CELLS" = some (some (.int 8 tk0)))
    (m1 : PySem.W.nsIn K mainGlobals "MOST_ROCK_CAPACITY" = some (some (.int 20 tk1)))
    (m2 : PySem.W.nsIn K mainGlobals "MOST_TEMPERATURE" = some (some (.int 300 tk2)))
    (m3 : PySem.W.nsIn K mainGlobals "MOST_STEPS" = some (some (.int 20 tk3)))
    (m4 : PySem.W.nsIn K mainGlobals "MOST_FORECAST" = some (some (.int 20 tk4)))
    (m5 : PySem.W.nsIn K mainGlobals "FIRST_ROCK_CAPACITY" = some (some (.int 1 tk5)))
    (m6 : PySem.W.nsIn K mainGlobals "FIRST_TEMPERATURE" = some (some (.int 100 tk6)))
    (m7 : PySem.W.nsIn K mainGlobals "FIRST_INJECTION_TEMPERATURE" = some (some (.int 20 tk7)))
    (m8 : PySem.W.nsIn K mainGlobals "CREATE" = some (some (.int 0 tk8)))
    (zlist : PySem.W.nsIn K mainGlobals "list" = some none)
    (zlen : PySem.W.nsIn K mainGlobals "len" = some none)
    (zzip : PySem.W.nsIn K mainGlobals "zip" = some none)
    (zrange : PySem.W.nsIn K mainGlobals "range" = some none)
    (zsum : PySem.W.nsIn K mainGlobals "sum" = some none)
    (zreversed : PySem.W.nsIn K mainGlobals "reversed" = some none)
    (zenumerate : PySem.W.nsIn K mainGlobals "enumerate" = some none)
    (zint : PySem.W.nsIn K mainGlobals "int" = some none)
    (agcd : PySem.W.nsIn K mainGlobals "greatest_common_divisor" = some (some (.ref fgcd)))
    (lgcd : K.lookup fgcd = some ⟨ocgcd, odgcd, .func (PySem.W.fnOf "greatest_common_divisor" "greatest_common_divisor" (defArgs sGcd) (defBody sGcd) (defScope sGcd) .none kVgcd dcgcd pmgcd angcd cdgcd ctgcd), slgcd⟩)
    (cgcd : PySem.W.codeIn K cdgcd "greatest_common_divisor" = true)
    (kgcd : PySem.W.keepIn K (.ref fgcd) = true)
    (alow : PySem.W.nsIn K mainGlobals "in_lowest_terms" = some (some (.ref flow)))
    (llow : K.lookup flow = some ⟨oclow, odlow, .func (PySem.W.fnOf "in_lowest_terms" "in_lowest_terms" (defArgs sLow) (defBody sLow) (defScope sLow) .none kVlow dclow pmlow anlow cdlow ctlow), sllow⟩)
    (clow : PySem.W.codeIn K cdlow "in_lowest_terms" = true)
    (klow : PySem.W.keepIn K (.ref flow) = true)
    (awho : PySem.W.nsIn K mainGlobals "whole" = some (some (.ref fwho)))
    (lwho : K.lookup fwho = some ⟨ocwho, odwho, .func (PySem.W.fnOf "whole" "whole" (defArgs sWhole) (defBody sWhole) (defScope sWhole) .none kVwho dcwho pmwho anwho cdwho ctwho), slwho⟩)
    (cwho : PySem.W.codeIn K cdwho "whole" = true)
    (kwho : PySem.W.keepIn K (.ref fwho) = true)
    (aadt : PySem.W.nsIn K mainGlobals "add_times" = some (some (.ref fadt)))
    (ladt : K.lookup fadt = some ⟨ocadt, odadt, .func (PySem.W.fnOf "add_times" "add_times" (defArgs sAddT) (defBody sAddT) (defScope sAddT) .none kVadt dcadt pmadt anadt cdadt ctadt), sladt⟩)
    (cadt : PySem.W.codeIn K cdadt "add_times" = true)
    (kadt : PySem.W.keepIn K (.ref fadt) = true)
    (aadd : PySem.W.nsIn K mainGlobals "add" = some (some (.ref fadd)))
    (ladd : K.lookup fadd = some ⟨ocadd, odadd, .func (PySem.W.fnOf "add" "add" (defArgs sAdd) (defBody sAdd) (defScope sAdd) .none kVadd dcadd pmadd anadd cdadd ctadd), sladd⟩)
    (cadd : PySem.W.codeIn K cdadd "add" = true)
    (kadd : PySem.W.keepIn K (.ref fadd) = true)
    (awm : PySem.W.nsIn K mainGlobals "weighted_mean" = some (some (.ref fwm)))
    (lwm : K.lookup fwm = some ⟨ocwm, odwm, .func (PySem.W.fnOf "weighted_mean" "weighted_mean" (defArgs sWm) (defBody sWm) (defScope sWm) .none kVwm dcwm pmwm anwm cdwm ctwm), slwm⟩)
    (cwm : PySem.W.codeIn K cdwm "weighted_mean" = true)
    (kwm : PySem.W.keepIn K (.ref fwm) = true)
    (amea : PySem.W.nsIn K mainGlobals "mean" = some (some (.ref fmea)))
    (lmea : K.lookup fmea = some ⟨ocmea, odmea, .func (PySem.W.fnOf "mean" "mean" (defArgs sMean) (defBody sMean) (defScope sMean) .none kVmea dcmea pmmea anmea cdmea ctmea), slmea⟩)
    (cmea : PySem.W.codeIn K cdmea "mean" = true)
    (kmea : PySem.W.keepIn K (.ref fmea) = true)
    (ales : PySem.W.nsIn K mainGlobals "is_less" = some (some (.ref fles)))
    (lles : K.lookup fles = some ⟨ocles, odles, .func (PySem.W.fnOf "is_less" "is_less" (defArgs sLess) (defBody sLess) (defScope sLess) .none kVles dcles pmles anles cdles ctles), slles⟩)
    (cles : PySem.W.codeIn K cdles "is_less" = true)
    (kles : PySem.W.keepIn K (.ref fles) = true)
    (agre : PySem.W.nsIn K mainGlobals "greatest" = some (some (.ref fgre)))
    (lgre : K.lookup fgre = some ⟨ocgre, odgre, .func (PySem.W.fnOf "greatest" "greatest" (defArgs sGreat) (defBody sGreat) (defScope sGreat) .none kVgre dcgre pmgre angre cdgre ctgre), slgre⟩)
    (cgre : PySem.W.codeIn K cdgre "greatest" = true)
    (kgre : PySem.W.keepIn K (.ref fgre) = true)
    (asma : PySem.W.nsIn K mainGlobals "smallest" = some (some (.ref fsma)))
    (lsma : K.lookup fsma = some ⟨ocsma, odsma, .func (PySem.W.fnOf "smallest" "smallest" (defArgs sSmall) (defBody sSmall) (defScope sSmall) .none kVsma dcsma pmsma ansma cdsma ctsma), slsma⟩)
    (csma : PySem.W.codeIn K cdsma "smallest" = true)
    (ksma : PySem.W.keepIn K (.ref fsma) = true)
    (ames : PySem.W.nsIn K mainGlobals "means" = some (some (.ref fmes)))
    (lmes : K.lookup fmes = some ⟨ocmes, odmes, .func (PySem.W.fnOf "means" "means" (defArgs sMeans) (defBody sMeans) (defScope sMeans) .none kVmes dcmes pmmes anmes cdmes ctmes), slmes⟩)
    (cmes : PySem.W.codeIn K cdmes "means" = true)
    (kmes : PySem.W.keepIn K (.ref fmes) = true)
    (awfr : PySem.W.nsIn K mainGlobals "with_fractions" = some (some (.ref fwfr)))
    (lwfr : K.lookup fwfr = some ⟨ocwfr, odwfr, .func (PySem.W.fnOf "with_fractions" "with_fractions" (defArgs sWf) (defBody sWf) (defScope sWf) .none kVwfr dcwfr pmwfr anwfr cdwfr ctwfr), slwfr⟩)
    (cwfr : PySem.W.codeIn K cdwfr "with_fractions" = true)
    (kwfr : PySem.W.keepIn K (.ref fwfr) = true)
    (aran : PySem.W.nsIn K mainGlobals "check_range" = some (some (.ref fran)))
    (lran : K.lookup fran = some ⟨ocran, odran, .func (PySem.W.fnOf "check_range" "check_range" (defArgs sRange) (defBody sRange) (defScope sRange) .none kVran dcran pmran anran cdran ctran), slran⟩)
    (cran : PySem.W.codeIn K cdran "check_range" = true)
    (kran : PySem.W.keepIn K (.ref fran) = true)
    (aden : PySem.W.nsIn K mainGlobals "check_denominators" = some (some (.ref fden)))
    (lden : K.lookup fden = some ⟨ocden, odden, .func (PySem.W.fnOf "check_denominators" "check_denominators" (defArgs sDen) (defBody sDen) (defScope sDen) .none kVden dcden pmden anden cdden ctden), slden⟩)
    (cden : PySem.W.codeIn K cdden "check_denominators" = true)
    (kden : PySem.W.keepIn K (.ref fden) = true)
    (ao1 : PySem.W.nsIn K mainGlobals "set_rock_capacity" = some (some (.ref fo1)))
    (lo1 : K.lookup fo1 = some ⟨oco1, odo1, .func (PySem.W.fnOf "set_rock_capacity" "set_rock_capacity" (defArgs sOp1) (defBody sOp1) (defScope sOp1) .none kVo1 dco1 pmo1 ano1 cdo1 cto1), slo1⟩)
    (co1 : PySem.W.codeIn K cdo1 "set_rock_capacity" = true)
    (ko1 : PySem.W.keepIn K (.ref fo1) = true)
    (ao2 : PySem.W.nsIn K mainGlobals "set_temperature" = some (some (.ref fo2)))
    (lo2 : K.lookup fo2 = some ⟨oco2, odo2, .func (PySem.W.fnOf "set_temperature" "set_temperature" (defArgs sOp2) (defBody sOp2) (defScope sOp2) .none kVo2 dco2 pmo2 ano2 cdo2 cto2), slo2⟩)
    (co2 : PySem.W.codeIn K cdo2 "set_temperature" = true)
    (ko2 : PySem.W.keepIn K (.ref fo2) = true)
    (ao3 : PySem.W.nsIn K mainGlobals "set_all_temperatures" = some (some (.ref fo3)))
    (lo3 : K.lookup fo3 = some ⟨oco3, odo3, .func (PySem.W.fnOf "set_all_temperatures" "set_all_temperatures" (defArgs sOp3) (defBody sOp3) (defScope sOp3) .none kVo3 dco3 pmo3 ano3 cdo3 cto3), slo3⟩)
    (co3 : PySem.W.codeIn K cdo3 "set_all_temperatures" = true)
    (ko3 : PySem.W.keepIn K (.ref fo3) = true)
    (ao4 : PySem.W.nsIn K mainGlobals "set_injection_temperature" = some (some (.ref fo4)))
    (lo4 : K.lookup fo4 = some ⟨oco4, odo4, .func (PySem.W.fnOf "set_injection_temperature" "set_injection_temperature" (defArgs sOp4) (defBody sOp4) (defScope sOp4) .none kVo4 dco4 pmo4 ano4 cdo4 cto4), slo4⟩)
    (co4 : PySem.W.codeIn K cdo4 "set_injection_temperature" = true)
    (ko4 : PySem.W.keepIn K (.ref fo4) = true)
    (ao5 : PySem.W.nsIn K mainGlobals "advance" = some (some (.ref fo5)))
    (lo5 : K.lookup fo5 = some ⟨oco5, odo5, .func (PySem.W.fnOf "advance" "advance" (defArgs sOp5) (defBody sOp5) (defScope sOp5) .none kVo5 dco5 pmo5 ano5 cdo5 cto5), slo5⟩)
    (co5 : PySem.W.codeIn K cdo5 "advance" = true)
    (ko5 : PySem.W.keepIn K (.ref fo5) = true)
    (ao6 : PySem.W.nsIn K mainGlobals "advance_many" = some (some (.ref fo6)))
    (lo6 : K.lookup fo6 = some ⟨oco6, odo6, .func (PySem.W.fnOf "advance_many" "advance_many" (defArgs sOp6) (defBody sOp6) (defScope sOp6) .none kVo6 dco6 pmo6 ano6 cdo6 cto6), slo6⟩)
    (co6 : PySem.W.codeIn K cdo6 "advance_many" = true)
    (ko6 : PySem.W.keepIn K (.ref fo6) = true)
    (ao7 : PySem.W.nsIn K mainGlobals "equilibrate" = some (some (.ref fo7)))
    (lo7 : K.lookup fo7 = some ⟨oco7, odo7, .func (PySem.W.fnOf "equilibrate" "equilibrate" (defArgs sOp7) (defBody sOp7) (defScope sOp7) .none kVo7 dco7 pmo7 ano7 cdo7 cto7), slo7⟩)
    (co7 : PySem.W.codeIn K cdo7 "equilibrate" = true)
    (ko7 : PySem.W.keepIn K (.ref fo7) = true)
    (ao8 : PySem.W.nsIn K mainGlobals "forecast" = some (some (.ref fo8)))
    (lo8 : K.lookup fo8 = some ⟨oco8, odo8, .func (PySem.W.fnOf "forecast" "forecast" (defArgs sOp8) (defBody sOp8) (defScope sOp8) .none kVo8 dco8 pmo8 ano8 cdo8 cto8), slo8⟩)
    (co8 : PySem.W.codeIn K cdo8 "forecast" = true)
    (ko8 : PySem.W.keepIn K (.ref fo8) = true)
    (ao9 : PySem.W.nsIn K mainGlobals "get_cell" = some (some (.ref fo9)))
    (lo9 : K.lookup fo9 = some ⟨oco9, odo9, .func (PySem.W.fnOf "get_cell" "get_cell" (defArgs sOp9) (defBody sOp9) (defScope sOp9) .none kVo9 dco9 pmo9 ano9 cdo9 cto9), slo9⟩)
    (co9 : PySem.W.codeIn K cdo9 "get_cell" = true)
    (ko9 : PySem.W.keepIn K (.ref fo9) = true)
    (ao10 : PySem.W.nsIn K mainGlobals "total_heat" = some (some (.ref fo10)))
    (lo10 : K.lookup fo10 = some ⟨oco10, odo10, .func (PySem.W.fnOf "total_heat" "total_heat" (defArgs sOp10) (defBody sOp10) (defScope sOp10) .none kVo10 dco10 pmo10 ano10 cdo10 cto10), slo10⟩)
    (co10 : PySem.W.codeIn K cdo10 "total_heat" = true)
    (ko10 : PySem.W.keepIn K (.ref fo10) = true)
    (ao11 : PySem.W.nsIn K mainGlobals "balance" = some (some (.ref fo11)))
    (lo11 : K.lookup fo11 = some ⟨oco11, odo11, .func (PySem.W.fnOf "balance" "balance" (defArgs sOp11) (defBody sOp11) (defScope sOp11) .none kVo11 dco11 pmo11 ano11 cdo11 cto11), slo11⟩)
    (co11 : PySem.W.codeIn K cdo11 "balance" = true)
    (ko11 : PySem.W.keepIn K (.ref fo11) = true)
    (ao12 : PySem.W.nsIn K mainGlobals "hottest" = some (some (.ref fo12)))
    (lo12 : K.lookup fo12 = some ⟨oco12, odo12, .func (PySem.W.fnOf "hottest" "hottest" (defArgs sOp12) (defBody sOp12) (defScope sOp12) .none kVo12 dco12 pmo12 ano12 cdo12 cto12), slo12⟩)
    (co12 : PySem.W.codeIn K cdo12 "hottest" = true)
    (ko12 : PySem.W.keepIn K (.ref fo12) = true)
    (ao13 : PySem.W.nsIn K mainGlobals "coldest" = some (some (.ref fo13)))
    (lo13 : K.lookup fo13 = some ⟨oco13, odo13, .func (PySem.W.fnOf "coldest" "coldest" (defArgs sOp13) (defBody sOp13) (defScope sOp13) .none kVo13 dco13 pmo13 ano13 cdo13 cto13), slo13⟩)
    (co13 : PySem.W.codeIn K cdo13 "coldest" = true)
    (ko13 : PySem.W.keepIn K (.ref fo13) = true)
    (ao14 : PySem.W.nsIn K mainGlobals "breakthrough" = some (some (.ref fo14)))
    (lo14 : K.lookup fo14 = some ⟨oco14, odo14, .func (PySem.W.fnOf "breakthrough" "breakthrough" (defArgs sOp14) (defBody sOp14) (defScope sOp14) .none kVo14 dco14 pmo14 ano14 cdo14 cto14), slo14⟩)
    (co14 : PySem.W.codeIn K cdo14 "breakthrough" = true)
    (ko14 : PySem.W.keepIn K (.ref fo14) = true)
    (ao15 : PySem.W.nsIn K mainGlobals "save_profile" = some (some (.ref fo15)))
    (lo15 : K.lookup fo15 = some ⟨oco15, odo15, .func (PySem.W.fnOf "save_profile" "save_profile" (defArgs sOp15) (defBody sOp15) (defScope sOp15) .none kVo15 dco15 pmo15 ano15 cdo15 cto15), slo15⟩)
    (co15 : PySem.W.codeIn K cdo15 "save_profile" = true)
    (ko15 : PySem.W.keepIn K (.ref fo15) = true)
    (ao16 : PySem.W.nsIn K mainGlobals "compare_with_saved" = some (some (.ref fo16)))
    (lo16 : K.lookup fo16 = some ⟨oco16, odo16, .func (PySem.W.fnOf "compare_with_saved" "compare_with_saved" (defArgs sOp16) (defBody sOp16) (defScope sOp16) .none kVo16 dco16 pmo16 ano16 cdo16 cto16), slo16⟩)
    (co16 : PySem.W.codeIn K cdo16 "compare_with_saved" = true)
    (ko16 : PySem.W.keepIn K (.ref fo16) = true)
    (ao17 : PySem.W.nsIn K mainGlobals "average_with_saved" = some (some (.ref fo17)))
    (lo17 : K.lookup fo17 = some ⟨oco17, odo17, .func (PySem.W.fnOf "average_with_saved" "average_with_saved" (defArgs sOp17) (defBody sOp17) (defScope sOp17) .none kVo17 dco17 pmo17 ano17 cdo17 cto17), slo17⟩)
    (co17 : PySem.W.codeIn K cdo17 "average_with_saved" = true)
    (ko17 : PySem.W.keepIn K (.ref fo17) = true)
    (ao18 : PySem.W.nsIn K mainGlobals "reverse" = some (some (.ref fo18)))
    (lo18 : K.lookup fo18 = some ⟨oco18, odo18, .func (PySem.W.fnOf "reverse" "reverse" (defArgs sOp18) (defBody sOp18) (defScope sOp18) .none kVo18 dco18 pmo18 ano18 cdo18 cto18), slo18⟩)
    (co18 : PySem.W.codeIn K cdo18 "reverse" = true)
    (ko18 : PySem.W.keepIn K (.ref fo18) = true)
    (ao19 : PySem.W.nsIn K mainGlobals "excess_heat" = some (some (.ref fo19)))
    (lo19 : K.lookup fo19 = some ⟨oco19, odo19, .func (PySem.W.fnOf "excess_heat" "excess_heat" (defArgs sOp19) (defBody sOp19) (defScope sOp19) .none kVo19 dco19 pmo19 ano19 cdo19 cto19), slo19⟩)
    (co19 : PySem.W.codeIn K cdo19 "excess_heat" = true)
    (ko19 : PySem.W.keepIn K (.ref fo19) = true)
    (ao20 : PySem.W.nsIn K mainGlobals "summary" = some (some (.ref fo20)))
    (lo20 : K.lookup fo20 = some ⟨oco20, odo20, .func (PySem.W.fnOf "summary" "summary" (defArgs sOp20) (defBody sOp20) (defScope sOp20) .none kVo20 dco20 pmo20 ano20 cdo20 cto20), slo20⟩)
    (co20 : PySem.W.codeIn K cdo20 "summary" = true)
    (ko20 : PySem.W.keepIn K (.ref fo20) = true)
    (aPini : PySem.W.findIn K (.ref CP) "__init__" = some (some (.ref fPini)))
    (iPini : PySem.W.isFn K (.ref fPini) = true)
    (lPini : K.lookup fPini = some ⟨ocPini, odPini, .func (PySem.W.fnOf "__init__" "Profile.__init__" (defArgs sPInit) (defBody sPInit) (defScope sPInit) .none kVPini dcPini pmPini anPini cdPini ctPini), slPini⟩)
    (cPini : PySem.W.codeIn K cdPini "Profile.__init__" = true)
    (kPini : PySem.W.keepIn K (.ref fPini) = true)
    (aPtwi : PySem.W.findIn K (.ref CP) "twin" = some (some (.ref fPtwi)))
    (iPtwi : PySem.W.isFn K (.ref fPtwi) = true)
    (lPtwi : K.lookup fPtwi = some ⟨ocPtwi, odPtwi, .func (PySem.W.fnOf "twin" "Profile.twin" (defArgs sTwin) (defBody sTwin) (defScope sTwin) .none kVPtwi dcPtwi pmPtwi anPtwi cdPtwi ctPtwi), slPtwi⟩)
    (cPtwi : PySem.W.codeIn K cdPtwi "Profile.twin" = true)
    (kPtwi : PySem.W.keepIn K (.ref fPtwi) = true)
    (aPcnt : PySem.W.findIn K (.ref CP) "cell_count" = some (some (.ref fPcnt)))
    (iPcnt : PySem.W.isFn K (.ref fPcnt) = true)
    (lPcnt : K.lookup fPcnt = some ⟨ocPcnt, odPcnt, .func (PySem.W.fnOf "cell_count" "Profile.cell_count" (defArgs sCount) (defBody sCount) (defScope sCount) .none kVPcnt dcPcnt pmPcnt anPcnt cdPcnt ctPcnt), slPcnt⟩)
    (cPcnt : PySem.W.codeIn K cdPcnt "Profile.cell_count" = true)
    (kPcnt : PySem.W.keepIn K (.ref fPcnt) = true)
    (aPset : PySem.W.findIn K (.ref CP) "set_temperature" = some (some (.ref fPset)))
    (iPset : PySem.W.isFn K (.ref fPset) = true)
    (lPset : K.lookup fPset = some ⟨ocPset, odPset, .func (PySem.W.fnOf "set_temperature" "Profile.set_temperature" (defArgs sSetT) (defBody sSetT) (defScope sSetT) .none kVPset dcPset pmPset anPset cdPset ctPset), slPset⟩)
    (cPset : PySem.W.codeIn K cdPset "Profile.set_temperature" = true)
    (kPset : PySem.W.keepIn K (.ref fPset) = true)
    (aPequ : PySem.W.findIn K (.ref CP) "equilibrate" = some (some (.ref fPequ)))
    (iPequ : PySem.W.isFn K (.ref fPequ) = true)
    (lPequ : K.lookup fPequ = some ⟨ocPequ, odPequ, .func (PySem.W.fnOf "equilibrate" "Profile.equilibrate" (defArgs sEq) (defBody sEq) (defScope sEq) .none kVPequ dcPequ pmPequ anPequ cdPequ ctPequ), slPequ⟩)
    (cPequ : PySem.W.codeIn K cdPequ "Profile.equilibrate" = true)
    (kPequ : PySem.W.keepIn K (.ref fPequ) = true)
    (aPmov : PySem.W.findIn K (.ref CP) "move_on" = some (some (.ref fPmov)))
    (iPmov : PySem.W.isFn K (.ref fPmov) = true)
    (lPmov : K.lookup fPmov = some ⟨ocPmov, odPmov, .func (PySem.W.fnOf "move_on" "Profile.move_on" (defArgs sMove) (defBody sMove) (defScope sMove) .none kVPmov dcPmov pmPmov anPmov cdPmov ctPmov), slPmov⟩)
    (cPmov : PySem.W.codeIn K cdPmov "Profile.move_on" = true)
    (kPmov : PySem.W.keepIn K (.ref fPmov) = true)
    (aPtem : PySem.W.findIn K (.ref CP) "temperatures" = some (some (.ref fPtem)))
    (iPtem : PySem.W.isFn K (.ref fPtem) = true)
    (lPtem : K.lookup fPtem = some ⟨ocPtem, odPtem, .func (PySem.W.fnOf "temperatures" "Profile.temperatures" (defArgs sTemps) (defBody sTemps) (defScope sTemps) .none kVPtem dcPtem pmPtem anPtem cdPtem ctPtem), slPtem⟩)
    (cPtem : PySem.W.codeIn K cdPtem "Profile.temperatures" = true)
    (kPtem : PySem.W.keepIn K (.ref fPtem) = true)
    (aPhea : PySem.W.findIn K (.ref CP) "total_heat" = some (some (.ref fPhea)))
    (iPhea : PySem.W.isFn K (.ref fPhea) = true)
    (lPhea : K.lookup fPhea = some ⟨ocPhea, odPhea, .func (PySem.W.fnOf "total_heat" "Profile.total_heat" (defArgs sHeat) (defBody sHeat) (defScope sHeat) .none kVPhea dcPhea pmPhea anPhea cdPhea ctPhea), slPhea⟩)
    (cPhea : PySem.W.codeIn K cdPhea "Profile.total_heat" = true)
    (kPhea : PySem.W.keepIn K (.ref fPhea) = true)
    (aPuni : PySem.W.findIn K (.ref CP) "uniform_heat" = some (some (.ref fPuni)))
    (iPuni : PySem.W.isFn K (.ref fPuni) = true)
    (lPuni : K.lookup fPuni = some ⟨ocPuni, odPuni, .func (PySem.W.fnOf "uniform_heat" "Profile.uniform_heat" (defArgs sUni) (defBody sUni) (defScope sUni) .none kVPuni dcPuni pmPuni anPuni cdPuni ctPuni), slPuni⟩)
    (cPuni : PySem.W.codeIn K cdPuni "Profile.uniform_heat" = true)
    (kPuni : PySem.W.keepIn K (.ref fPuni) = true)
    (aPsam : PySem.W.findIn K (.ref CP) "same_cells" = some (some (.ref fPsam)))
    (iPsam : PySem.W.isFn K (.ref fPsam) = true)
    (lPsam : K.lookup fPsam = some ⟨ocPsam, odPsam, .func (PySem.W.fnOf "same_cells" "Profile.same_cells" (defArgs sSame) (defBody sSame) (defScope sSame) .none kVPsam dcPsam pmPsam anPsam cdPsam ctPsam), slPsam⟩)
    (cPsam : PySem.W.codeIn K cdPsam "Profile.same_cells" = true)
    (kPsam : PySem.W.keepIn K (.ref fPsam) = true)
    (aPnow : PySem.W.findIn K (.ref CP) "nowhere_colder" = some (some (.ref fPnow)))
    (iPnow : PySem.W.isFn K (.ref fPnow) = true)
    (lPnow : K.lookup fPnow = some ⟨ocPnow, odPnow, .func (PySem.W.fnOf "nowhere_colder" "Profile.nowhere_colder" (defArgs sNow) (defBody sNow) (defScope sNow) .none kVPnow dcPnow pmPnow anPnow cdPnow ctPnow), slPnow⟩)
    (cPnow : PySem.W.codeIn K cdPnow "Profile.nowhere_colder" = true)
    (kPnow : PySem.W.keepIn K (.ref fPnow) = true)
    (aPmea : PySem.W.findIn K (.ref CP) "mean_with" = some (some (.ref fPmea)))
    (iPmea : PySem.W.isFn K (.ref fPmea) = true)
    (lPmea : K.lookup fPmea = some ⟨ocPmea, odPmea, .func (PySem.W.fnOf "mean_with" "Profile.mean_with" (defArgs sMeanW) (defBody sMeanW) (defScope sMeanW) .none kVPmea dcPmea pmPmea anPmea cdPmea ctPmea), slPmea⟩)
    (cPmea : PySem.W.codeIn K cdPmea "Profile.mean_with" = true)
    (kPmea : PySem.W.keepIn K (.ref fPmea) = true)
    (aPtur : PySem.W.findIn K (.ref CP) "turned_round" = some (some (.ref fPtur)))
    (iPtur : PySem.W.isFn K (.ref fPtur) = true)
    (lPtur : K.lookup fPtur = some ⟨ocPtur, odPtur, .func (PySem.W.fnOf "turned_round" "Profile.turned_round" (defArgs sTurn) (defBody sTurn) (defScope sTurn) .none kVPtur dcPtur pmPtur anPtur cdPtur ctPtur), slPtur⟩)
    (cPtur : PySem.W.codeIn K cdPtur "Profile.turned_round" = true)
    (kPtur : PySem.W.keepIn K (.ref fPtur) = true)
    (aRini : PySem.W.findIn K (.ref C) "__init__" = some (some (.ref fRini)))
    (iRini : PySem.W.isFn K (.ref fRini) = true)
    (lRini : K.lookup fRini = some ⟨ocRini, odRini, .func (PySem.W.fnOf "__init__" "Reservoir.__init__" (defArgs sRInit) (defBody sRInit) (defScope sRInit) .none kVRini dcRini pmRini anRini cdRini ctRini), slRini⟩)
    (cRini : PySem.W.codeIn K cdRini "Reservoir.__init__" = true)
    (kRini : PySem.W.keepIn K (.ref fRini) = true)
    (aRcnt : PySem.W.findIn K (.ref C) "cell_count" = some (some (.ref fRcnt)))
    (iRcnt : PySem.W.isFn K (.ref fRcnt) = true)
    (lRcnt : K.lookup fRcnt = some ⟨ocRcnt, odRcnt, .func (PySem.W.fnOf "cell_count" "Reservoir.cell_count" (defArgs sRCount) (defBody sRCount) (defScope sRCount) .none kVRcnt dcRcnt pmRcnt anRcnt cdRcnt ctRcnt), slRcnt⟩)
    (cRcnt : PySem.W.codeIn K cdRcnt "Reservoir.cell_count" = true)
    (kRcnt : PySem.W.keepIn K (.ref fRcnt) = true)
    (aRchk : PySem.W.findIn K (.ref C) "check_cell" = some (some (.ref fRchk)))
    (iRchk : PySem.W.isFn K (.ref fRchk) = true)
    (lRchk : K.lookup fRchk = some ⟨ocRchk, odRchk, .func (PySem.W.fnOf "check_cell" "Reservoir.check_cell" (defArgs sRCheck) (defBody sRCheck) (defScope sRCheck) .none kVRchk dcRchk pmRchk anRchk cdRchk ctRchk), slRchk⟩)
    (cRchk : PySem.W.codeIn K cdRchk "Reservoir.check_cell" = true)
    (kRchk : PySem.W.keepIn K (.ref fRchk) = true)
    (aRcap : PySem.W.findIn K (.ref C) "set_rock_capacity" = some (some (.ref fRcap)))
    (iRcap : PySem.W.isFn K (.ref fRcap) = true)
    (lRcap : K.lookup fRcap = some ⟨ocRcap, odRcap, .func (PySem.W.fnOf "set_rock_capacity" "Reservoir.set_rock_capacity" (defArgs sRCap) (defBody sRCap) (defScope sRCap) .none kVRcap dcRcap pmRcap anRcap cdRcap ctRcap), slRcap⟩)
    (cRcap : PySem.W.codeIn K cdRcap "Reservoir.set_rock_capacity" = true)
    (kRcap : PySem.W.keepIn K (.ref fRcap) = true)
    (aRset : PySem.W.findIn K (.ref C) "set_temperature" = some (some (.ref fRset)))
    (iRset : PySem.W.isFn K (.ref fRset) = true)
    (lRset : K.lookup fRset = some ⟨ocRset, odRset, .func (PySem.W.fnOf "set_temperature" "Reservoir.set_temperature" (defArgs sRSet) (defBody sRSet) (defScope sRSet) .none kVRset dcRset pmRset anRset cdRset ctRset), slRset⟩)
    (cRset : PySem.W.codeIn K cdRset "Reservoir.set_temperature" = true)
    (kRset : PySem.W.keepIn K (.ref fRset) = true)
    (aRall : PySem.W.findIn K (.ref C) "set_all_temperatures" = some (some (.ref fRall)))
    (iRall : PySem.W.isFn K (.ref fRall) = true)
    (lRall : K.lookup fRall = some ⟨ocRall, odRall, .func (PySem.W.fnOf "set_all_temperatures" "Reservoir.set_all_temperatures" (defArgs sRAll) (defBody sRAll) (defScope sRAll) .none kVRall dcRall pmRall anRall cdRall ctRall), slRall⟩)
    (cRall : PySem.W.codeIn K cdRall "Reservoir.set_all_temperatures" = true)
    (kRall : PySem.W.keepIn K (.ref fRall) = true)
    (aRinj : PySem.W.findIn K (.ref C) "set_injection_temperature" = some (some (.ref fRinj)))
    (iRinj : PySem.W.isFn K (.ref fRinj) = true)
    (lRinj : K.lookup fRinj = some ⟨ocRinj, odRinj, .func (PySem.W.fnOf "set_injection_temperature" "Reservoir.set_injection_temperature" (defArgs sRInj) (defBody sRInj) (defScope sRInj) .none kVRinj dcRinj pmRinj anRinj cdRinj ctRinj), slRinj⟩)
    (cRinj : PySem.W.codeIn K cdRinj "Reservoir.set_injection_temperature" = true)
    (kRinj : PySem.W.keepIn K (.ref fRinj) = true)
    (aRman : PySem.W.findIn K (.ref C) "advance_many" = some (some (.ref fRman)))
    (iRman : PySem.W.isFn K (.ref fRman) = true)
    (lRman : K.lookup fRman = some ⟨ocRman, odRman, .func (PySem.W.fnOf "advance_many" "Reservoir.advance_many" (defArgs sRMany) (defBody sRMany) (defScope sRMany) .none kVRman dcRman pmRman anRman cdRman ctRman), slRman⟩)
    (cRman : PySem.W.codeIn K cdRman "Reservoir.advance_many" = true)
    (kRman : PySem.W.keepIn K (.ref fRman) = true)
    (aRadv : PySem.W.findIn K (.ref C) "advance" = some (some (.ref fRadv)))
    (iRadv : PySem.W.isFn K (.ref fRadv) = true)
    (lRadv : K.lookup fRadv = some ⟨ocRadv, odRadv, .func (PySem.W.fnOf "advance" "Reservoir.advance" (defArgs sRAdv) (defBody sRAdv) (defScope sRAdv) .none kVRadv dcRadv pmRadv anRadv cdRadv ctRadv), slRadv⟩)
    (cRadv : PySem.W.codeIn K cdRadv "Reservoir.advance" = true)
    (kRadv : PySem.W.keepIn K (.ref fRadv) = true)
    (aRequ : PySem.W.findIn K (.ref C) "equilibrate" = some (some (.ref fRequ)))
    (iRequ : PySem.W.isFn K (.ref fRequ) = true)
    (lRequ : K.lookup fRequ = some ⟨ocRequ, odRequ, .func (PySem.W.fnOf "equilibrate" "Reservoir.equilibrate" (defArgs sREq) (defBody sREq) (defScope sREq) .none kVRequ dcRequ pmRequ anRequ cdRequ ctRequ), slRequ⟩)
    (cRequ : PySem.W.codeIn K cdRequ "Reservoir.equilibrate" = true)
    (kRequ : PySem.W.keepIn K (.ref fRequ) = true)
    (aRfor : PySem.W.findIn K (.ref C) "forecast" = some (some (.ref fRfor)))
    (iRfor : PySem.W.isFn K (.ref fRfor) = true)
    (lRfor : K.lookup fRfor = some ⟨ocRfor, odRfor, .func (PySem.W.fnOf "forecast" "Reservoir.forecast" (defArgs sRFore) (defBody sRFore) (defScope sRFore) .none kVRfor dcRfor pmRfor anRfor cdRfor ctRfor), slRfor⟩)
    (cRfor : PySem.W.codeIn K cdRfor "Reservoir.forecast" = true)
    (kRfor : PySem.W.keepIn K (.ref fRfor) = true)
    (aRget : PySem.W.findIn K (.ref C) "get_cell" = some (some (.ref fRget)))
    (iRget : PySem.W.isFn K (.ref fRget) = true)
    (lRget : K.lookup fRget = some ⟨ocRget, odRget, .func (PySem.W.fnOf "get_cell" "Reservoir.get_cell" (defArgs sRGet) (defBody sRGet) (defScope sRGet) .none kVRget dcRget pmRget anRget cdRget ctRget), slRget⟩)
    (cRget : PySem.W.codeIn K cdRget "Reservoir.get_cell" = true)
    (kRget : PySem.W.keepIn K (.ref fRget) = true)
    (aRhea : PySem.W.findIn K (.ref C) "total_heat" = some (some (.ref fRhea)))
    (iRhea : PySem.W.isFn K (.ref fRhea) = true)
    (lRhea : K.lookup fRhea = some ⟨ocRhea, odRhea, .func (PySem.W.fnOf "total_heat" "Reservoir.total_heat" (defArgs sRHeat) (defBody sRHeat) (defScope sRHeat) .none kVRhea dcRhea pmRhea anRhea cdRhea ctRhea), slRhea⟩)
    (cRhea : PySem.W.codeIn K cdRhea "Reservoir.total_heat" = true)
    (kRhea : PySem.W.keepIn K (.ref fRhea) = true)
    (aRhas : PySem.W.findIn K (.ref C) "has_saved" = some (some (.ref fRhas)))
    (iRhas : PySem.W.isFn K (.ref fRhas) = true)
    (lRhas : K.lookup fRhas = some ⟨ocRhas, odRhas, .func (PySem.W.fnOf "has_saved" "Reservoir.has_saved" (defArgs sRHas) (defBody sRHas) (defScope sRHas) .none kVRhas dcRhas pmRhas anRhas cdRhas ctRhas), slRhas⟩)
    (cRhas : PySem.W.codeIn K cdRhas "Reservoir.has_saved" = true)
    (kRhas : PySem.W.keepIn K (.ref fRhas) = true)
    (aRchs : PySem.W.findIn K (.ref C) "check_saved" = some (some (.ref fRchs)))
    (iRchs : PySem.W.isFn K (.ref fRchs) = true)
    (lRchs : K.lookup fRchs = some ⟨ocRchs, odRchs, .func (PySem.W.fnOf "check_saved" "Reservoir.check_saved" (defArgs sRChkS) (defBody sRChkS) (defScope sRChkS) .none kVRchs dcRchs pmRchs anRchs cdRchs ctRchs), slRchs⟩)
    (cRchs : PySem.W.codeIn K cdRchs "Reservoir.check_saved" = true)
    (kRchs : PySem.W.keepIn K (.ref fRchs) = true)
    (aRbal : PySem.W.findIn K (.ref C) "balance" = some (some (.ref fRbal)))
    (iRbal : PySem.W.isFn K (.ref fRbal) = true)
    (lRbal : K.lookup fRbal = some ⟨ocRbal, odRbal, .func (PySem.W.fnOf "balance" "Reservoir.balance" (defArgs sRBal) (defBody sRBal) (defScope sRBal) .none kVRbal dcRbal pmRbal anRbal cdRbal ctRbal), slRbal⟩)
    (cRbal : PySem.W.codeIn K cdRbal "Reservoir.balance" = true)
    (kRbal : PySem.W.keepIn K (.ref fRbal) = true)
    (aRhot : PySem.W.findIn K (.ref C) "hottest" = some (some (.ref fRhot)))
    (iRhot : PySem.W.isFn K (.ref fRhot) = true)
    (lRhot : K.lookup fRhot = some ⟨ocRhot, odRhot, .func (PySem.W.fnOf "hottest" "Reservoir.hottest" (defArgs sRHot) (defBody sRHot) (defScope sRHot) .none kVRhot dcRhot pmRhot anRhot cdRhot ctRhot), slRhot⟩)
    (cRhot : PySem.W.codeIn K cdRhot "Reservoir.hottest" = true)
    (kRhot : PySem.W.keepIn K (.ref fRhot) = true)
    (aRcol : PySem.W.findIn K (.ref C) "coldest" = some (some (.ref fRcol)))
    (iRcol : PySem.W.isFn K (.ref fRcol) = true)
    (lRcol : K.lookup fRcol = some ⟨ocRcol, odRcol, .func (PySem.W.fnOf "coldest" "Reservoir.coldest" (defArgs sRCold) (defBody sRCold) (defScope sRCold) .none kVRcol dcRcol pmRcol anRcol cdRcol ctRcol), slRcol⟩)
    (cRcol : PySem.W.codeIn K cdRcol "Reservoir.coldest" = true)
    (kRcol : PySem.W.keepIn K (.ref fRcol) = true)
    (aRbrk : PySem.W.findIn K (.ref C) "breakthrough" = some (some (.ref fRbrk)))
    (iRbrk : PySem.W.isFn K (.ref fRbrk) = true)
    (lRbrk : K.lookup fRbrk = some ⟨ocRbrk, odRbrk, .func (PySem.W.fnOf "breakthrough" "Reservoir.breakthrough" (defArgs sRBrk) (defBody sRBrk) (defScope sRBrk) .none kVRbrk dcRbrk pmRbrk anRbrk cdRbrk ctRbrk), slRbrk⟩)
    (cRbrk : PySem.W.codeIn K cdRbrk "Reservoir.breakthrough" = true)
    (kRbrk : PySem.W.keepIn K (.ref fRbrk) = true)
    (aRsav : PySem.W.findIn K (.ref C) "save_profile" = some (some (.ref fRsav)))
    (iRsav : PySem.W.isFn K (.ref fRsav) = true)
    (lRsav : K.lookup fRsav = some ⟨ocRsav, odRsav, .func (PySem.W.fnOf "save_profile" "Reservoir.save_profile" (defArgs sRSave) (defBody sRSave) (defScope sRSave) .none kVRsav dcRsav pmRsav anRsav cdRsav ctRsav), slRsav⟩)
    (cRsav : PySem.W.codeIn K cdRsav "Reservoir.save_profile" = true)
    (kRsav : PySem.W.keepIn K (.ref fRsav) = true)
    (aRcmp : PySem.W.findIn K (.ref C) "compare_with_saved" = some (some (.ref fRcmp)))
    (iRcmp : PySem.W.isFn K (.ref fRcmp) = true)
    (lRcmp : K.lookup fRcmp = some ⟨ocRcmp, odRcmp, .func (PySem.W.fnOf "compare_with_saved" "Reservoir.compare_with_saved" (defArgs sRCmp) (defBody sRCmp) (defScope sRCmp) .none kVRcmp dcRcmp pmRcmp anRcmp cdRcmp ctRcmp), slRcmp⟩)
    (cRcmp : PySem.W.codeIn K cdRcmp "Reservoir.compare_with_saved" = true)
    (kRcmp : PySem.W.keepIn K (.ref fRcmp) = true)
    (aRavg : PySem.W.findIn K (.ref C) "average_with_saved" = some (some (.ref fRavg)))
    (iRavg : PySem.W.isFn K (.ref fRavg) = true)
    (lRavg : K.lookup fRavg = some ⟨ocRavg, odRavg, .func (PySem.W.fnOf "average_with_saved" "Reservoir.average_with_saved" (defArgs sRAvg) (defBody sRAvg) (defScope sRAvg) .none kVRavg dcRavg pmRavg anRavg cdRavg ctRavg), slRavg⟩)
    (cRavg : PySem.W.codeIn K cdRavg "Reservoir.average_with_saved" = true)
    (kRavg : PySem.W.keepIn K (.ref fRavg) = true)
    (aRrev : PySem.W.findIn K (.ref C) "reverse" = some (some (.ref fRrev)))
    (iRrev : PySem.W.isFn K (.ref fRrev) = true)
    (lRrev : K.lookup fRrev = some ⟨ocRrev, odRrev, .func (PySem.W.fnOf "reverse" "Reservoir.reverse" (defArgs sRRev) (defBody sRRev) (defScope sRRev) .none kVRrev dcRrev pmRrev anRrev cdRrev ctRrev), slRrev⟩)
    (cRrev : PySem.W.codeIn K cdRrev "Reservoir.reverse" = true)
    (kRrev : PySem.W.keepIn K (.ref fRrev) = true)
    (aRexc : PySem.W.findIn K (.ref C) "excess_heat" = some (some (.ref fRexc)))
    (iRexc : PySem.W.isFn K (.ref fRexc) = true)
    (lRexc : K.lookup fRexc = some ⟨ocRexc, odRexc, .func (PySem.W.fnOf "excess_heat" "Reservoir.excess_heat" (defArgs sRExc) (defBody sRExc) (defScope sRExc) .none kVRexc dcRexc pmRexc anRexc cdRexc ctRexc), slRexc⟩)
    (cRexc : PySem.W.codeIn K cdRexc "Reservoir.excess_heat" = true)
    (kRexc : PySem.W.keepIn K (.ref fRexc) = true)
    (aKini : PySem.W.findIn K (.ref CK) "__init__" = some (some (.ref fKini)))
    (iKini : PySem.W.isFn K (.ref fKini) = true)
    (lKini : K.lookup fKini = some ⟨ocKini, odKini, .func (PySem.W.fnOf "__init__" "Desk.__init__" (defArgs sKInit) (defBody sKInit) (defScope sKInit) .none kVKini dcKini pmKini anKini cdKini ctKini), slKini⟩)
    (cKini : PySem.W.codeIn K cdKini "Desk.__init__" = true)
    (kKini : PySem.W.keepIn K (.ref fKini) = true)
    (aKcar : PySem.W.findIn K (.ref CK) "carry_out" = some (some (.ref fKcar)))
    (iKcar : PySem.W.isFn K (.ref fKcar) = true)
    (lKcar : K.lookup fKcar = some ⟨ocKcar, odKcar, .func (PySem.W.fnOf "carry_out" "Desk.carry_out" (defArgs sKCarry) (defBody sKCarry) (defScope sKCarry) .none kVKcar dcKcar pmKcar anKcar cdKcar ctKcar), slKcar⟩)
    (cKcar : PySem.W.codeIn K cdKcar "Desk.carry_out" = true)
    (kKcar : PySem.W.keepIn K (.ref fKcar) = true)
    (aKans : PySem.W.findIn K (.ref CK) "answer" = some (some (.ref fKans)))
    (iKans : PySem.W.isFn K (.ref fKans) = true)
    (lKans : K.lookup fKans = some ⟨ocKans, odKans, .func (PySem.W.fnOf "answer" "Desk.answer" (defArgs sKAns) (defBody sKAns) (defScope sKAns) .none kVKans dcKans pmKans anKans cdKans ctKans), slKans⟩)
    (cKans : PySem.W.codeIn K cdKans "Desk.answer" = true)
    (kKans : PySem.W.keepIn K (.ref fKans) = true)
    (aO : PySem.W.nsIn K mainGlobals "OPERATIONS" = some (some (.ref dO)))
    (lO : K.lookup dO = some ⟨.type "dict", none, .dict esO nO, #[]⟩)
    (liO : litI esO = true)
    (loO : (dO == sysModules) = false)
    (qo1 : findBy Value.isInt esO 1 = some (.ref fo1))
    (qo2 : findBy Value.isInt esO 2 = some (.ref fo2))
    (qo3 : findBy Value.isInt esO 3 = some (.ref fo3))
    (qo4 : findBy Value.isInt esO 4 = some (.ref fo4))
    (qo5 : findBy Value.isInt esO 5 = some (.ref fo5))
    (qo6 : findBy Value.isInt esO 6 = some (.ref fo6))
    (qo7 : findBy Value.isInt esO 7 = some (.ref fo7))
    (qo8 : findBy Value.isInt esO 8 = some (.ref fo8))
    (qo9 : findBy Value.isInt esO 9 = some (.ref fo9))
    (qo10 : findBy Value.isInt esO 10 = some (.ref fo10))
    (qo11 : findBy Value.isInt esO 11 = some (.ref fo11))
    (qo12 : findBy Value.isInt esO 12 = some (.ref fo12))
    (qo13 : findBy Value.isInt esO 13 = some (.ref fo13))
    (qo14 : findBy Value.isInt esO 14 = some (.ref fo14))
    (qo15 : findBy Value.isInt esO 15 = some (.ref fo15))
    (qo16 : findBy Value.isInt esO 16 = some (.ref fo16))
    (qo17 : findBy Value.isInt esO 17 = some (.ref fo17))
    (qo18 : findBy Value.isInt esO 18 = some (.ref fo18))
    (qo19 : findBy Value.isInt esO 19 = some (.ref fo19))
    (qo20 : findBy Value.isInt esO 20 = some (.ref fo20))
    (aA : PySem.W.nsIn K mainGlobals "ARGUMENT_COUNTS" = some (some (.ref tA)))
    (lA : K.lookup tA = some ⟨.type "tuple", ddA, .seq itA nA, slA⟩)
    (zA : itA.size ≤ sizeLine)
    (vA : Vals (argc.map V.int) itA.toList)
    (aAns : PySem.W.nsIn K mainGlobals "answers" = some (some (.ref fAns)))
    (lAns : K.lookup fAns = some ⟨ocAns, odAns, .func (PySem.W.fnOf "answers" "answers" (defArgs sAnswers) (defBody sAnswers) (defScope sAnswers) .none kVAns dcAns pmAns anAns cdAns ctAns), slAns⟩)
    (cAns : PySem.W.codeIn K cdAns "answers" = true)
    (kAns : PySem.W.keepIn K (.ref fAns) = true) :
    ∃ fd : FuncData, (∀ (s : Shared) (us : List Value), us.length = (["calls"] : List Str).length → BindsTo s fd ⟨us, []⟩ ((["calls"] : List Str).zip us)) ∧ ∀ base : Heap, K.In base → base.Ns mainGlobals mg → FnOk P w K mg base CX0 11 fa fd ["calls"] (spAnswers K) := by
  have e := hfa.symm.trans (PySem.W.mg_of X G aAns)
  cases e
  have TX0 : ExcTxt K mg "NoReservoir" CR := ⟨PySem.W.mg_of X G gTX0, xTX0, pTX0, sTX0, tTX0⟩
  have TC : ExcTxt K mg "NoSuchCell" CC := ⟨PySem.W.mg_of X G gTC, xTC, pTC, sTC, tTC⟩
  have TO : ExcTxt K mg "OutOfRange" CO := ⟨PySem.W.mg_of X G gTO, xTO, pTO, sTO, tTO⟩
  have TN : ExcTxt K mg "NoSavedProfile" CN := ⟨PySem.W.mg_of X G gTN, xTN, pTN, sTN, tTN⟩
  have TF : ExcTxt K mg "DifferentCells" CF := ⟨PySem.W.mg_of X G gTF, xTF, pTF, sTF, tTF⟩
  have TD : ExcTxt K mg "DenominatorTooLarge" CD := ⟨PySem.W.mg_of X G gTD, xTD, pTD, sTD, tTD⟩
  have TB : ExcTxt K mg "NoBreakthrough" CB := ⟨PySem.W.mg_of X G gTB, xTB, pTB, sTB, tTB⟩
  have XX : Exms K CR CC CO CD CN CF CB := ⟨exm_of sTX0 iTX0 tTX0 e00, exm_of sTX0 iTX0 tTX0 e10, exm_of sTC iTC tTC e11, exm_of sTX0 iTX0 tTX0 e20, exm_of sTC iTC tTC e21, exm_of sTO iTO tTO e22, exm_of sTX0 iTX0 tTX0 e30, exm_of sTC iTC tTC e31, exm_of sTO iTO tTO e32, exm_of sTN iTN tTN e33, exm_of sTX0 iTX0 tTX0 e40, exm_of sTC iTC tTC e41, exm_of sTO iTO tTO e42, exm_of sTN iTN tTN e43, exm_of sTF iTF tTF e44, exm_of sTX0 iTX0 tTX0 e50, exm_of sTC iTC tTC e51, exm_of sTO iTO tTO e52, exm_of sTN iTN tTN e53, exm_of sTF iTF tTF e54, exm_of sTD iTD tTD e55, exm_of sTX0 iTX0 tTX0 e60, exm_of sTC iTC tTC e61, exm_of sTO iTO tTO e62, exm_of sTN iTN tTN e63, exm_of sTF iTF tTF e64, exm_of sTD iTD tTD e65, exm_of sTB iTB tTB e66⟩
  have TP : PTxt K mg CP := ⟨⟨pgP, hdP, poP, saP⟩, nP0, nP1, nP2, PySem.W.mg_of X G aCP, PySem.W.mg_none_of X G zlist, PySem.W.mg_none_of X G zlen, PySem.W.mg_none_of X G zzip⟩
  have TR : RTxt K mg C := ⟨⟨pgR, hdR, poR, saR⟩, nR0, nR1, nR2, nR3, nR4, nR5, PySem.W.mg_of X G aCR, PySem.W.mg_none_of X G zrange, ⟨_, PySem.W.mg_of X G m0⟩, ⟨_, PySem.W.mg_of X G m1⟩, ⟨_, PySem.W.mg_of X G m2⟩, ⟨_, PySem.W.mg_of X G m3⟩, ⟨_, PySem.W.mg_of X G m4⟩, ⟨_, PySem.W.mg_of X G m5⟩, ⟨_, PySem.W.mg_of X G m6⟩, ⟨_, PySem.W.mg_of X G m7⟩⟩
  have TK : KTxt K mg CK dO esO nO := ⟨⟨pgK, hdK, poK, saK⟩, nK0, PySem.W.mg_of X G aCK, ⟨_, PySem.W.mg_of X G m8⟩, PySem.W.mg_of X G aO, ⟨lO, liO, loO⟩⟩
  have TA : ATxt K mg tA := ⟨PySem.W.mg_of X G aA, fun H => .inr ⟨_, itA, nA, lA, rfl, rfl, zA, vA⟩, PySem.W.mg_none_of X G zlen⟩
  have TP2 : PTxt2 K mg := ⟨PySem.W.mg_none_of X G zsum, PySem.W.mg_none_of X G zreversed⟩
  have TG : GTxt K mg := ⟨PySem.W.mg_none_of X G zint⟩
  have gE : mg "enumerate" = none := PySem.W.mg_none_of X G zenumerate
  have Fgcd := fun_mk (st := sGcd) lgcd cgcd kgcd
  have bgcd := Fgcd.binds (ps := ["first", "second"]) fun _ _ _ _ _ _ us hl => match us, hl with | [_, _], _ => rfl
  have Flow := fun_mk (st := sLow) llow clow klow
  have blow := Flow.binds (ps := ["numerator", "denominator"]) fun _ _ _ _ _ _ us hl => match us, hl with | [_, _], _ => rfl
  have Fwho := fun_mk (st := sWhole) lwho cwho kwho
  have bwho := Fwho.binds (ps := ["number"]) fun _ _ _ _ _ _ us hl => match us, hl with | [_], _ => rfl
  have Fadt := fun_mk (st := sAddT) ladt cadt kadt
  have badt := Fadt.binds (ps := ["first", "factor", "second"]) fun _ _ _ _ _ _ us hl => match us, hl with | [_, _, _], _ => rfl
  have Fadd := fun_mk (st := sAdd) ladd cadd kadd
  have badd := Fadd.binds (ps := ["first", "second"]) fun _ _ _ _ _ _ us hl => match us, hl with | [_, _], _ => rfl
  have Fwm := fun_mk (st := sWm) lwm cwm kwm
  have bwm := Fwm.binds (ps := ["weight", "first", "second"]) fun _ _ _ _ _ _ us hl => match us, hl with | [_, _, _], _ => rfl
  have Fmea := fun_mk (st := sMean) lmea cmea kmea
  have bmea := Fmea.binds (ps := ["first", "second"]) fun _ _ _ _ _ _ us hl => match us, hl with | [_, _], _ => rfl
  have Fles := fun_mk (st := sLess) lles cles kles
  have bles := Fles.binds (ps := ["first", "second"]) fun _ _ _ _ _ _ us hl => match us, hl with | [_, _], _ => rfl
  have Fgre := fun_mk (st := sGreat) lgre cgre kgre
  have bgre := Fgre.binds (ps := ["fractions"]) fun _ _ _ _ _ _ us hl => match us, hl with | [_], _ => rfl
  have Fsma := fun_mk (st := sSmall) lsma csma ksma
  have bsma := Fsma.binds (ps := ["fractions"]) fun _ _ _ _ _ _ us hl => match us, hl with | [_], _ => rfl
  have Fmes := fun_mk (st := sMeans) lmes cmes kmes
  have bmes := Fmes.binds (ps := ["firsts", "seconds"]) fun _ _ _ _ _ _ us hl => match us, hl with | [_, _], _ => rfl
  have Fwfr := fun_mk (st := sWf) lwfr cwfr kwfr
  have bwfr := Fwfr.binds (ps := ["number", "fractions"]) fun _ _ _ _ _ _ us hl => match us, hl with | [_, _], _ => rfl
  have Fran := fun_mk (st := sRange) lran cran kran
  have bran := Fran.binds (ps := ["number", "least", "most"]) fun _ _ _ _ _ _ us hl => match us, hl with | [_, _, _], _ => rfl
  have Fden := fun_mk (st := sDen) lden cden kden
  have bden := Fden.binds (ps := ["fractions"]) fun _ _ _ _ _ _ us hl => match us, hl with | [_], _ => rfl
  have Fo1 := fun_mk (st := sOp1) lo1 co1 ko1
  have bo1 := Fo1.binds (ps := ["reservoir", "arguments"]) fun _ _ _ _ _ _ us hl => match us, hl with | [_, _], _ => rfl
  have Fo2 := fun_mk (st := sOp2) lo2 co2 ko2
  have bo2 := Fo2.binds (ps := ["reservoir", "arguments"]) fun _ _ _ _ _ _ us hl => match us, hl with | [_, _], _ => rfl
  have Fo3 := fun_mk (st := sOp3) lo3 co3 ko3
  have bo3 := Fo3.binds (ps := ["reservoir", "arguments"]) fun _ _ _ _ _ _ us hl => match us, hl with | [_, _], _ => rfl
  have Fo4 := fun_mk (st := sOp4) lo4 co4 ko4
  have bo4 := Fo4.binds (ps := ["reservoir", "arguments"]) fun _ _ _ _ _ _ us hl => match us, hl with | [_, _], _ => rfl
  have Fo5 := fun_mk (st := sOp5) lo5 co5 ko5
  have bo5 := Fo5.binds (ps := ["reservoir", "arguments"]) fun _ _ _ _ _ _ us hl => match us, hl with | [_, _], _ => rfl
  have Fo6 := fun_mk (st := sOp6) lo6 co6 ko6
  have bo6 := Fo6.binds (ps := ["reservoir", "arguments"]) fun _ _ _ _ _ _ us hl => match us, hl with | [_, _], _ => rfl
  have Fo7 := fun_mk (st := sOp7) lo7 co7 ko7
  have bo7 := Fo7.binds (ps := ["reservoir", "arguments"]) fun _ _ _ _ _ _ us hl => match us, hl with | [_, _], _ => rfl
  have Fo8 := fun_mk (st := sOp8) lo8 co8 ko8
  have bo8 := Fo8.binds (ps := ["reservoir", "arguments"]) fun _ _ _ _ _ _ us hl => match us, hl with | [_, _], _ => rfl
  have Fo9 := fun_mk (st := sOp9) lo9 co9 ko9
  have bo9 := Fo9.binds (ps := ["reservoir", "arguments"]) fun _ _ _ _ _ _ us hl => match us, hl with | [_, _], _ => rfl
  have Fo10 := fun_mk (st := sOp10) lo10 co10 ko10
  have bo10 := Fo10.binds (ps := ["reservoir", "arguments"]) fun _ _ _ _ _ _ us hl => match us, hl with | [_, _], _ => rfl
  have Fo11 := fun_mk (st := sOp11) lo11 co11 ko11
  have bo11 := Fo11.binds (ps := ["reservoir", "arguments"]) fun _ _ _ _ _ _ us hl => match us, hl with | [_, _], _ => rfl
  have Fo12 := fun_mk (st := sOp12) lo12 co12 ko12
  have bo12 := Fo12.binds (ps := ["reservoir", "arguments"]) fun _ _ _ _ _ _ us hl => match us, hl with | [_, _], _ => rfl
  have Fo13 := fun_mk (st := sOp13) lo13 co13 ko13
  have bo13 := Fo13.binds (ps := ["reservoir", "arguments"]) fun _ _ _ _ _ _ us hl => match us, hl with | [_, _], _ => rfl
  have Fo14 := fun_mk (st := sOp14) lo14 co14 ko14
  have bo14 := Fo14.binds (ps := ["reservoir", "arguments"]) fun _ _ _ _ _ _ us hl => match us, hl with | [_, _], _ => rfl
  have Fo15 := fun_mk (st := sOp15) lo15 co15 ko15
  have bo15 := Fo15.binds (ps := ["reservoir", "arguments"]) fun _ _ _ _ _ _ us hl => match us, hl with | [_, _], _ => rfl
  have Fo16 := fun_mk (st := sOp16) lo16 co16 ko16
  have bo16 := Fo16.binds (ps := ["reservoir", "arguments"]) fun _ _ _ _ _ _ us hl => match us, hl with | [_, _], _ => rfl
  have Fo17 := fun_mk (st := sOp17) lo17 co17 ko17
  have bo17 := Fo17.binds (ps := ["reservoir", "arguments"]) fun _ _ _ _ _ _ us hl => match us, hl with | [_, _], _ => rfl
  have Fo18 := fun_mk (st := sOp18) lo18 co18 ko18
  have bo18 := Fo18.binds (ps := ["reservoir", "arguments"]) fun _ _ _ _ _ _ us hl => match us, hl with | [_, _], _ => rfl
  have Fo19 := fun_mk (st := sOp19) lo19 co19 ko19
  have bo19 := Fo19.binds (ps := ["reservoir", "arguments"]) fun _ _ _ _ _ _ us hl => match us, hl with | [_, _], _ => rfl
  have Fo20 := fun_mk (st := sOp20) lo20 co20 ko20
  have bo20 := Fo20.binds (ps := ["reservoir", "arguments"]) fun _ _ _ _ _ _ us hl => match us, hl with | [_, _], _ => rfl
  have FPini := fun_mk (st := sPInit) lPini cPini kPini
  have bPini := FPini.binds (ps := ["self", "rock_capacities", "rock_temperatures", "water_temperatures"]) fun _ _ _ _ _ _ us hl => match us, hl with | [_, _, _, _], _ => rfl
  have FPtwi := fun_mk (st := sTwin) lPtwi cPtwi kPtwi
  have bPtwi := FPtwi.binds (ps := ["self"]) fun _ _ _ _ _ _ us hl => match us, hl with | [_], _ => rfl
  have FPcnt := fun_mk (st := sCount) lPcnt cPcnt kPcnt
  have bPcnt := FPcnt.binds (ps := ["self"]) fun _ _ _ _ _ _ us hl => match us, hl with | [_], _ => rfl
  have FPset := fun_mk (st := sSetT) lPset cPset kPset
  have bPset := FPset.binds (ps := ["self", "cell", "temperature"]) fun _ _ _ _ _ _ us hl => match us, hl with | [_, _, _], _ => rfl
  have FPequ := fun_mk (st := sEq) lPequ cPequ kPequ
  have bPequ := FPequ.binds (ps := ["self"]) fun _ _ _ _ _ _ us hl => match us, hl with | [_], _ => rfl
  have FPmov := fun_mk (st := sMove) lPmov cPmov kPmov
  have bPmov := FPmov.binds (ps := ["self", "entering"]) fun _ _ _ _ _ _ us hl => match us, hl with | [_, _], _ => rfl
  have FPtem := fun_mk (st := sTemps) lPtem cPtem kPtem
  have bPtem := FPtem.binds (ps := ["self"]) fun _ _ _ _ _ _ us hl => match us, hl with | [_], _ => rfl
  have FPhea := fun_mk (st := sHeat) lPhea cPhea kPhea
  have bPhea := FPhea.binds (ps := ["self"]) fun _ _ _ _ _ _ us hl => match us, hl with | [_], _ => rfl
  have FPuni := fun_mk (st := sUni) lPuni cPuni kPuni
  have bPuni := FPuni.binds (ps := ["self", "temperature"]) fun _ _ _ _ _ _ us hl => match us, hl with | [_, _], _ => rfl
  have FPsam := fun_mk (st := sSame) lPsam cPsam kPsam
  have bPsam := FPsam.binds (ps := ["self", "other"]) fun _ _ _ _ _ _ us hl => match us, hl with | [_, _], _ => rfl
  have FPnow := fun_mk (st := sNow) lPnow cPnow kPnow
  have bPnow := FPnow.binds (ps := ["self", "other"]) fun _ _ _ _ _ _ us hl => match us, hl with | [_, _], _ => rfl
  have FPmea := fun_mk (st := sMeanW) lPmea cPmea kPmea
  have bPmea := FPmea.binds (ps := ["self", "other"]) fun _ _ _ _ _ _ us hl => match us, hl with | [_, _], _ => rfl
  have FPtur := fun_mk (st := sTurn) lPtur cPtur kPtur
  have bPtur := FPtur.binds (ps := ["self"]) fun _ _ _ _ _ _ us hl => match us, hl with | [_], _ => rfl
  have FRini := fun_mk (st := sRInit) lRini cRini kRini
  have bRini := FRini.binds (ps := ["self", "cell_count"]) fun _ _ _ _ _ _ us hl => match us, hl with | [_, _], _ => rfl
  have FRcnt := fun_mk (st := sRCount) lRcnt cRcnt kRcnt
  have bRcnt := FRcnt.binds (ps := ["self"]) fun _ _ _ _ _ _ us hl => match us, hl with | [_], _ => rfl
  have FRchk := fun_mk (st := sRCheck) lRchk cRchk kRchk
  have bRchk := FRchk.binds (ps := ["self", "cell"]) fun _ _ _ _ _ _ us hl => match us, hl with | [_, _], _ => rfl
  have FRcap := fun_mk (st := sRCap) lRcap cRcap kRcap
  have bRcap := FRcap.binds (ps := ["self", "cell", "rock_capacity"]) fun _ _ _ _ _ _ us hl => match us, hl with | [_, _, _], _ => rfl
  have FRset := fun_mk (st := sRSet) lRset cRset kRset
  have bRset := FRset.binds (ps := ["self", "cell", "temperature"]) fun _ _ _ _ _ _ us hl => match us, hl with | [_, _, _], _ => rfl
  have FRall := fun_mk (st := sRAll) lRall cRall kRall
  have bRall := FRall.binds (ps := ["self", "temperature"]) fun _ _ _ _ _ _ us hl => match us, hl with | [_, _], _ => rfl
  have FRinj := fun_mk (st := sRInj) lRinj cRinj kRinj
  have bRinj := FRinj.binds (ps := ["self", "temperature"]) fun _ _ _ _ _ _ us hl => match us, hl with | [_, _], _ => rfl
  have FRman := fun_mk (st := sRMany) lRman cRman kRman
  have bRman := FRman.binds (ps := ["self", "steps"]) fun _ _ _ _ _ _ us hl => match us, hl with | [_, _], _ => rfl
  have FRadv := fun_mk (st := sRAdv) lRadv cRadv kRadv
  have bRadv := FRadv.binds (ps := ["self"]) fun _ _ _ _ _ _ us hl => match us, hl with | [_], _ => rfl
  have FRequ := fun_mk (st := sREq) lRequ cRequ kRequ
  have bRequ := FRequ.binds (ps := ["self"]) fun _ _ _ _ _ _ us hl => match us, hl with | [_], _ => rfl
  have FRfor := fun_mk (st := sRFore) lRfor cRfor kRfor
  have bRfor := FRfor.binds (ps := ["self", "count"]) fun _ _ _ _ _ _ us hl => match us, hl with | [_, _], _ => rfl
  have FRget := fun_mk (st := sRGet) lRget cRget kRget
  have bRget := FRget.binds (ps := ["self", "cell"]) fun _ _ _ _ _ _ us hl => match us, hl with | [_, _], _ => rfl
  have FRhea := fun_mk (st := sRHeat) lRhea cRhea kRhea
  have bRhea := FRhea.binds (ps := ["self"]) fun _ _ _ _ _ _ us hl => match us, hl with | [_], _ => rfl
  have FRhas := fun_mk (st := sRHas) lRhas cRhas kRhas
  have bRhas := FRhas.binds (ps := ["self"]) fun _ _ _ _ _ _ us hl => match us, hl with | [_], _ => rfl
  have FRchs := fun_mk (st := sRChkS) lRchs cRchs kRchs
  have bRchs := FRchs.binds (ps := ["self"]) fun _ _ _ _ _ _ us hl => match us, hl with | [_], _ => rfl
  have FRbal := fun_mk (st := sRBal) lRbal cRbal kRbal
  have bRbal := FRbal.binds (ps := ["self"]) fun _ _ _ _ _ _ us hl => match us, hl with | [_], _ => rfl
  have FRhot := fun_mk (st := sRHot) lRhot cRhot kRhot
  have bRhot := FRhot.binds (ps := ["self"]) fun _ _ _ _ _ _ us hl => match us, hl with | [_], _ => rfl
  have FRcol := fun_mk (st := sRCold) lRcol cRcol kRcol
  have bRcol := FRcol.binds (ps := ["self"]) fun _ _ _ _ _ _ us hl => match us, hl with | [_], _ => rfl
  have FRbrk := fun_mk (st := sRBrk) lRbrk cRbrk kRbrk
  have bRbrk := FRbrk.binds (ps := ["self", "temperature"]) fun _ _ _ _ _ _ us hl => match us, hl with | [_, _], _ => rfl
  have FRsav := fun_mk (st := sRSave) lRsav cRsav kRsav
  have bRsav := FRsav.binds (ps := ["self"]) fun _ _ _ _ _ _ us hl => match us, hl with | [_], _ => rfl
  have FRcmp := fun_mk (st := sRCmp) lRcmp cRcmp kRcmp
  have bRcmp := FRcmp.binds (ps := ["self"]) fun _ _ _ _ _ _ us hl => match us, hl with | [_], _ => rfl
  have FRavg := fun_mk (st := sRAvg) lRavg cRavg kRavg
  have bRavg := FRavg.binds (ps := ["self"]) fun _ _ _ _ _ _ us hl => match us, hl with | [_], _ => rfl
  have FRrev := fun_mk (st := sRRev) lRrev cRrev kRrev
  have bRrev := FRrev.binds (ps := ["self"]) fun _ _ _ _ _ _ us hl => match us, hl with | [_], _ => rfl
  have FRexc := fun_mk (st := sRExc) lRexc cRexc kRexc
  have bRexc := FRexc.binds (ps := ["self", "temperature"]) fun _ _ _ _ _ _ us hl => match us, hl with | [_, _], _ => rfl
  have FKini := fun_mk (st := sKInit) lKini cKini kKini
  have bKini := FKini.binds (ps := ["self"]) fun _ _ _ _ _ _ us hl => match us, hl with | [_], _ => rfl
  have FKcar := fun_mk (st := sKCarry) lKcar cKcar kKcar
  have bKcar := FKcar.binds (ps := ["self", "number", "arguments"]) fun _ _ _ _ _ _ us hl => match us, hl with | [_, _, _], _ => rfl
  have FKans := fun_mk (st := sKAns) lKans cKans kKans
  have bKans := FKans.binds (ps := ["self", "number", "arguments"]) fun _ _ _ _ _ _ us hl => match us, hl with | [_, _, _], _ => rfl
  have FAns := fun_mk (st := sAnswers) lAns cAns kAns
  refine ⟨PySem.W.fnOf "answers" "answers" (defArgs sAnswers) (defBody sAnswers) (defScope sAnswers) .none kVAns dcAns pmAns anAns cdAns ctAns, fun s us hu => match us, hu with | [_], _ => .of_eq rfl, fun base _ _ => ?_⟩
  have Dgcd : DefOk CX0 P w K mg base 1 "greatest_common_divisor" ["first", "second"] spGcd := ⟨_, _, ok_gcd Fgcd, PySem.W.mg_of X G agcd, kgcd, bgcd⟩
  have Dlow : DefOk CX0 P w K mg base 2 "in_lowest_terms" ["numerator", "denominator"] spLow := ⟨_, _, ok_low Flow Dgcd, PySem.W.mg_of X G alow, klow, blow⟩
  have Dwho : DefOk CX0 P w K mg base 1 "whole" ["number"] spWhole := ⟨_, _, ok_whole Fwho, PySem.W.mg_of X G awho, kwho, bwho⟩
  have Dadt : DefOk CX0 P w K mg base 3 "add_times" ["first", "factor", "second"] spAddT := ⟨_, _, ok_addT Fadt Dlow, PySem.W.mg_of X G aadt, kadt, badt⟩
  have Dadd : DefOk CX0 P w K mg base 4 "add" ["first", "second"] spAdd := ⟨_, _, ok_add Fadd Dadt, PySem.W.mg_of X G aadd, kadd, badd⟩
  have Dwm : DefOk CX0 P w K mg base 3 "weighted_mean" ["weight", "first", "second"] spWm := ⟨_, _, ok_wm Fwm Dlow, PySem.W.mg_of X G awm, kwm, bwm⟩
  have Dmea : DefOk CX0 P w K mg base 4 "mean" ["first", "second"] spMean := ⟨_, _, ok_mean Fmea Dwm, PySem.W.mg_of X G amea, kmea, bmea⟩
  have Dles : DefOk CX0 P w K mg base 1 "is_less" ["first", "second"] spLess := ⟨_, _, ok_less Fles, PySem.W.mg_of X G ales, kles, bles⟩
  have Dgre : DefOk CX0 P w K mg base 2 "greatest" ["fractions"] spGreat := ⟨_, _, ok_great Fgre Dles, PySem.W.mg_of X G agre, kgre, bgre⟩
  have Dsma : DefOk CX0 P w K mg base 2 "smallest" ["fractions"] spSmall := ⟨_, _, ok_small Fsma Dles, PySem.W.mg_of X G asma, ksma, bsma⟩
  have Dmes : DefOk CX0 P w K mg base 5 "means" ["firsts", "seconds"] spMeans := ⟨_, _, ok_means Fmes TP.gZ Dmea, PySem.W.mg_of X G ames, kmes, bmes⟩
  have Dwfr : DefOk CX0 P w K mg base 1 "with_fractions" ["number", "fractions"] (spWf HO.lst) := ⟨_, _, ok_wfl Fwfr, PySem.W.mg_of X G awfr, kwfr, bwfr⟩
  have Dran : DefOk (L2.CX P w) P w K mg base 1 "check_range" ["number", "least", "most"] (spRange CO) := ⟨_, _, ok_range Fran TO, PySem.W.mg_of X G aran, kran, bran⟩
  have Dden : DefOk (L2.CX P w) P w K mg base 1 "check_denominators" ["fractions"] (spDen CD) := ⟨_, _, ok_den Fden TD, PySem.W.mg_of X G aden, kden, bden⟩
  have Dwft : DefOk CX0 P w K mg base 1 "with_fractions" ["number", "fractions"] (spWf HO.tup) := ⟨_, _, ok_wft Fwfr, PySem.W.mg_of X G awfr, kwfr, bwfr⟩
  have MPini : MakOk CX0 P w K mg base 1 "Profile" CP ["self", "rock_capacities", "rock_temperatures", "water_temperatures"] (spPInit K CP) := ⟨_, _, ⟨mkP, aPini, iPini, kcP⟩, ok_pinit FPini TP, bPini, PySem.W.mg_of X G aCP⟩
  have Ptwi : MetOk CX0 P w K mg base 3 CP "twin" ["self"] (spTwin CP) := ⟨_, _, ⟨aPtwi, iPtwi, kPtwi⟩, ok_twin FPtwi TP MPini, bPtwi⟩
  have Pcnt : MetOk CX0 P w K mg base 1 CP "cell_count" ["self"] (spCount CP) := ⟨_, _, ⟨aPcnt, iPcnt, kPcnt⟩, ok_count FPcnt TP, bPcnt⟩
  have Pset : MetOk CX0 P w K mg base 1 CP "set_temperature" ["self", "cell", "temperature"] (spSetT CP) := ⟨_, _, ⟨aPset, iPset, kPset⟩, ok_sett FPset TP, bPset⟩
  have Pequ : MetOk CX0 P w K mg base 4 CP "equilibrate" ["self"] (spEq CP) := ⟨_, _, ⟨aPequ, iPequ, kPequ⟩, ok_eq FPequ TP Dwm, bPequ⟩
  have Pmov : MetOk CX0 P w K mg base 5 CP "move_on" ["self", "entering"] (spMove CP) := ⟨_, _, ⟨aPmov, iPmov, kPmov⟩, ok_move FPmov TP Pequ, bPmov⟩
  have Ptem : MetOk CX0 P w K mg base 1 CP "temperatures" ["self"] (spTemps CP) := ⟨_, _, ⟨aPtem, iPtem, kPtem⟩, ok_temps FPtem TP, bPtem⟩
  have Phea : MetOk CX0 P w K mg base 5 CP "total_heat" ["self"] (spHeat CP) := ⟨_, _, ⟨aPhea, iPhea, kPhea⟩, ok_heat FPhea TP Dwho Dadd Dadt, bPhea⟩
  have Puni : MetOk CX0 P w K mg base 2 CP "uniform_heat" ["self", "temperature"] (spUni CP) := ⟨_, _, ⟨aPuni, iPuni, kPuni⟩, ok_uni FPuni TP TP2 Dwho Pcnt, bPuni⟩
  have Psam : MetOk CX0 P w K mg base 1 CP "same_cells" ["self", "other"] (spSame CP) := ⟨_, _, ⟨aPsam, iPsam, kPsam⟩, ok_same FPsam TP, bPsam⟩
  have Pnow : MetOk CX0 P w K mg base 2 CP "nowhere_colder" ["self", "other"] (spNow CP) := ⟨_, _, ⟨aPnow, iPnow, kPnow⟩, ok_now FPnow TP Psam Ptem Dles, bPnow⟩
  have Pmea : MetOk CX0 P w K mg base 6 CP "mean_with" ["self", "other"] (spMeanW CP) := ⟨_, _, ⟨aPmea, iPmea, kPmea⟩, ok_meanw FPmea TP Dmes MPini, bPmea⟩
  have Ptur : MetOk CX0 P w K mg base 3 CP "turned_round" ["self"] (spTurn CP) := ⟨_, _, ⟨aPtur, iPtur, kPtur⟩, ok_turn FPtur TP TP2 MPini, bPtur⟩
  have MRini : MakOk (L2.CX P w) P w K mg base 3 "Reservoir" C ["self", "cell_count"] (spRInit C CP CO) := ⟨_, _, ⟨mkR, aRini, iRini, kcR⟩, ok_rinit FRini TR Dran Dwho MPini, bRini, PySem.W.mg_of X G aCR⟩
  have Rcnt : MetOk CX0 P w K mg base 2 C "cell_count" ["self"] (spRCount C CP) := ⟨_, _, ⟨aRcnt, iRcnt, kRcnt⟩, ok_rcount FRcnt TR TP Pcnt, bRcnt⟩
  have Rchk : MetOk (L2.CX P w) P w K mg base 3 C "check_cell" ["self", "cell"] (spRCheck C CP CC) := ⟨_, _, ⟨aRchk, iRchk, kRchk⟩, ok_rcheck FRchk TR TC Rcnt, bRchk⟩
  have Rcap : MetOk (L2.CX P w) P w K mg base 4 C "set_rock_capacity" ["self", "cell", "rock_capacity"] (spRCap C CP CC CO) := ⟨_, _, ⟨aRcap, iRcap, kRcap⟩, ok_rcap FRcap TR TP Rchk Dran, bRcap⟩
  have Rset : MetOk (L2.CX P w) P w K mg base 4 C "set_temperature" ["self", "cell", "temperature"] (spRSet C CP CC CO) := ⟨_, _, ⟨aRset, iRset, kRset⟩, ok_rset FRset TR TP Rchk Dran Pset Dwho, bRset⟩
  have Rall : MetOk (L2.CX P w) P w K mg base 4 C "set_all_temperatures" ["self", "temperature"] (spRAll C CP CO) := ⟨_, _, ⟨aRall, iRall, kRall⟩, ok_rall FRall TR TP Rcnt Dran Pset Dwho, bRall⟩
  have Rinj : MetOk (L2.CX P w) P w K mg base 2 C "set_injection_temperature" ["self", "temperature"] (spRInj C CP CO) := ⟨_, _, ⟨aRinj, iRinj, kRinj⟩, ok_rinj FRinj TR Dran Dwho, bRinj⟩
  have Rman : MetOk (L2.CX P w) P w K mg base 6 C "advance_many" ["self", "steps"] (spRMany C CP CO CD) := ⟨_, _, ⟨aRman, iRman, kRman⟩, ok_rmany FRman TR TP Ptwi Pmov Ptem Dwho Dadd Dran Dden, bRman⟩
  have Radv : MetOk (L2.CX P w) P w K mg base 7 C "advance" ["self"] (spRAdv C CP CD) := ⟨_, _, ⟨aRadv, iRadv, kRadv⟩, ok_radv FRadv TR Rman, bRadv⟩
  have Requ : MetOk (L2.CX P w) P w K mg base 5 C "equilibrate" ["self"] (spREq C CP CD) := ⟨_, _, ⟨aRequ, iRequ, kRequ⟩, ok_req FRequ TR TP Ptwi Pequ Ptem Dden, bRequ⟩
  have Rfor : MetOk (L2.CX P w) P w K mg base 6 C "forecast" ["self", "count"] (spRFore C CP CO) := ⟨_, _, ⟨aRfor, iRfor, kRfor⟩, ok_rfore FRfor TR TP Ptwi Pmov Dran, bRfor⟩
  have Rget : MetOk (L2.CX P w) P w K mg base 4 C "get_cell" ["self", "cell"] (spRGet C CP CC) := ⟨_, _, ⟨aRget, iRget, kRget⟩, ok_rget FRget TR TP Rchk, bRget⟩
  have Rhea : MetOk CX0 P w K mg base 6 C "total_heat" ["self"] (spRHeat C CP) := ⟨_, _, ⟨aRhea, iRhea, kRhea⟩, ok_rheat FRhea TR TP Phea, bRhea⟩
  have Rhas : MetOk CX0 P w K mg base 1 C "has_saved" ["self"] (spRHas C CP) := ⟨_, _, ⟨aRhas, iRhas, kRhas⟩, ok_rhas FRhas TR, bRhas⟩
  have Rchs : MetOk (L2.CX P w) P w K mg base 2 C "check_saved" ["self"] (spRChkS C CP CN) := ⟨_, _, ⟨aRchs, iRchs, kRchs⟩, ok_rchks FRchs TR TN Rhas, bRchs⟩
  have Rbal : MetOk CX0 P w K mg base 1 C "balance" ["self"] (spRBal C CP) := ⟨_, _, ⟨aRbal, iRbal, kRbal⟩, ok_rbal FRbal TR, bRbal⟩
  have Rhot : MetOk CX0 P w K mg base 3 C "hottest" ["self"] (spRHot C CP) := ⟨_, _, ⟨aRhot, iRhot, kRhot⟩, ok_rhot FRhot TR TP Ptem Dgre, bRhot⟩
  have Rcol : MetOk CX0 P w K mg base 3 C "coldest" ["self"] (spRCold C CP) := ⟨_, _, ⟨aRcol, iRcol, kRcol⟩, ok_rcold FRcol TR TP Ptem Dsma, bRcol⟩
  have Rbrk : MetOk (L2.CX P w) P w K mg base 7 C "breakthrough" ["self", "temperature"] (spRBrk C CP CB) := ⟨_, _, ⟨aRbrk, iRbrk, kRbrk⟩, ok_rbrk FRbrk TR gE TB Rfor Dles Dwho, bRbrk⟩
  have Rsav : MetOk CX0 P w K mg base 4 C "save_profile" ["self"] (spRSave C CP) := ⟨_, _, ⟨aRsav, iRsav, kRsav⟩, ok_rsave FRsav TR TP Ptwi, bRsav⟩
  have Rcmp : MetOk (L2.CX P w) P w K mg base 3 C "compare_with_saved" ["self"] (spRCmp C CP CN) := ⟨_, _, ⟨aRcmp, iRcmp, kRcmp⟩, ok_rcmp FRcmp TR TP Rchs Pnow, bRcmp⟩
  have Ravg : MetOk (L2.CX P w) P w K mg base 7 C "average_with_saved" ["self"] (spRAvg C CP CN CF CD) := ⟨_, _, ⟨aRavg, iRavg, kRavg⟩, ok_ravg FRavg TR TP TF Rchs Psam Pmea Ptem Dden, bRavg⟩
  have Rrev : MetOk CX0 P w K mg base 4 C "reverse" ["self"] (spRRev C CP) := ⟨_, _, ⟨aRrev, iRrev, kRrev⟩, ok_rrev FRrev TR TP Ptur, bRrev⟩
  have Rexc : MetOk CX0 P w K mg base 7 C "excess_heat" ["self", "temperature"] (spRExc C CP) := ⟨_, _, ⟨aRexc, iRexc, kRexc⟩, ok_rexc FRexc TR TP Rhea Puni Dadt, bRexc⟩
  have OO : OpsOk P w K mg base C CP CC CO CD CN CF CB esO := by
    refine ⟨fun k h1 h2 => ?_⟩
    have hk : k = 1 ∨ k = 2 ∨ k = 3 ∨ k = 4 ∨ k = 5 ∨ k = 6 ∨ k = 7 ∨ k = 8 ∨ k = 9 ∨ k = 10 ∨ k = 11 ∨ k = 12 ∨ k = 13 ∨ k = 14 ∨ k = 15 ∨ k = 16 ∨ k = 17 ∨ k = 18 ∨ k = 19 ∨ k = 20 := by omega
    rcases hk with rfl | rfl | rfl | rfl | rfl | rfl | rfl | rfl | rfl | rfl | rfl | rfl | rfl | rfl | rfl | rfl | rfl | rfl | rfl | rfl
    · exact ⟨fo1, qo1, ⟨_, _, ok_op1 Fo1 TR Rcap, ko1, bo1⟩⟩
    · exact ⟨fo2, qo2, ⟨_, _, ok_op2 Fo2 TR Rset, ko2, bo2⟩⟩
    · exact ⟨fo3, qo3, ⟨_, _, ok_op3 Fo3 TR Rall Rcnt, ko3, bo3⟩⟩
    · exact ⟨fo4, qo4, ⟨_, _, ok_op4 Fo4 TR TP Rinj, ko4, bo4⟩⟩
    · exact ⟨fo5, qo5, ⟨_, _, ok_op5 Fo5 TR TP Radv, ko5, bo5⟩⟩
    · exact ⟨fo6, qo6, ⟨_, _, ok_op6 Fo6 TR TP Rman, ko6, bo6⟩⟩
    · exact ⟨fo7, qo7, ⟨_, _, ok_op7 Fo7 TR Requ Rcnt, ko7, bo7⟩⟩
    · exact ⟨fo8, qo8, ⟨_, _, ok_op8 Fo8 TR TP Rfor Dwfr, ko8, bo8⟩⟩
    · exact ⟨fo9, qo9, ⟨_, _, ok_op9 Fo9 TR Rget Dwft, ko9, bo9⟩⟩
    · exact ⟨fo10, qo10, ⟨_, _, ok_op10 Fo10 TR TP Rhea, ko10, bo10⟩⟩
    · exact ⟨fo11, qo11, ⟨_, _, ok_op11 Fo11 TR Rbal Dwft, ko11, bo11⟩⟩
    · exact ⟨fo12, qo12, ⟨_, _, ok_op12 Fo12 TR TP Rhot, ko12, bo12⟩⟩
    · exact ⟨fo13, qo13, ⟨_, _, ok_op13 Fo13 TR TP Rcol, ko13, bo13⟩⟩
    · exact ⟨fo14, qo14, ⟨_, _, ok_op14 Fo14 TR Rbrk, ko14, bo14⟩⟩
    · exact ⟨fo15, qo15, ⟨_, _, ok_op15 Fo15 TR Rsav Rcnt, ko15, bo15⟩⟩
    · exact ⟨fo16, qo16, ⟨_, _, ok_op16 Fo16 TR TG Rcmp, ko16, bo16⟩⟩
    · exact ⟨fo17, qo17, ⟨_, _, ok_op17 Fo17 TR Ravg Rcnt, ko17, bo17⟩⟩
    · exact ⟨fo18, qo18, ⟨_, _, ok_op18 Fo18 TR Rrev Rcnt, ko18, bo18⟩⟩
    · exact ⟨fo19, qo19, ⟨_, _, ok_op19 Fo19 TR TP Rexc, ko19, bo19⟩⟩
    · exact ⟨fo20, qo20, ⟨_, _, ok_op20 Fo20 TR TP TG Rcnt Rhas, ko20, bo20⟩⟩
  have MKini : MakOk CX0 P w K mg base 1 "Desk" CK ["self"] (spKInit CK) := ⟨_, _, ⟨mkK, aKini, iKini, kcK⟩, ok_kinit FKini TK, bKini, PySem.W.mg_of X G aCK⟩
  have Kcar : MetOk (L2.CX P w) P w K mg base 9 CK "carry_out" ["self", "number", "arguments"] (spCarry CK C CP CR CC CO CD CN CF CB) := ⟨_, _, ⟨aKcar, iKcar, kKcar⟩, ok_carry FKcar TK TX0 OO MRini, bKcar⟩
  have Kans : MetOk CX0 P w K mg base 10 CK "answer" ["self", "number", "arguments"] (spAnswer CK C CP) := ⟨_, _, ⟨aKans, iKans, kKans⟩, ok_kans FKans TK TX0 TC TO TN TF TD TB XX Kcar, bKans⟩
  exact ok_answers hkM FAns TK TA MKini Kans
end CF
open PySem PySem.W PyProof.Rows
set_option maxRecDepth 100000 in
set_option maxHeartbeats 8000000 in
theorem PySem.Challenge.cw_coldfrontrow_s01_answers_holds : PySem.Challenge.rw_coldfrontrow_s01_answers.Holds := by
  w_on; k_headS; (case hw => exact ⟨[.list [.int 0, .int 1]], by decide +kernel, by decide +kernel⟩)
  k_fillS
  refine L2.walk_specK (r := PySem.Challenge.rw_coldfrontrow_s01_answers) (k := 11) (CX := L2.CX0) (ps := ["calls"]) (sp := CF.spAnswers) (by decide +kernel) rfl rfl ⟨rfl, by decide, by decide⟩ (fun w h Y => PySem.W.kIn_of Y) ?F ?S (fun _ _ _ _ z => z)
  case F =>
    intro w mg fa h Y KX G hmg
    refine' CF.all_mk (by decide) KX G hmg ?gTX0 ?xTX0 ?pTX0 ?sTX0 ?tTX0 ?iTX0 ?gTC ?xTC ?pTC ?sTC ?tTC ?iTC ?gTO ?xTO ?pTO ?sTO ?tTO ?iTO ?gTN ?xTN ?pTN ?sTN ?tTN ?iTN ?gTF ?xTF ?pTF ?sTF ?tTF ?iTF ?gTD ?xTD ?pTD ?sTD ?tTD ?iTD ?gTB ?xTB ?pTB ?sTB ?tTB ?iTB ?e00 ?e10 ?e11 ?e20 ?e21 ?e22 ?e30 ?e31 ?e32 ?e33 ?e40 ?e41 ?e42 ?e43 ?e44 ?e50 ?e51 ?e52 ?e53 ?e54 ?e55 ?e60 ?e61 ?e62 ?e63 ?e64 ?e65 ?e66 ?aCP ?pgP ?hdP ?poP ?saP ?mkP ?kcP ?nP0 ?nP1 ?nP2 ?aCR ?pgR ?hdR ?poR ?saR ?mkR ?kcR ?nR0 ?nR1 ?nR2 ?nR3 ?nR4 ?nR5 ?aCK ?pgK ?hdK ?poK ?saK ?mkK ?kcK ?nK0 ?m0 ?m1 ?m2 ?m3 ?m4 ?m5 ?m6 ?m7 ?m8 ?zlist ?zlen ?zzip ?zrange ?zsum ?zreversed ?zenumerate ?zint ?agcd ?lgcd ?cgcd ?kgcd ?alow ?llow ?clow ?klow ?awho ?lwho ?cwho ?kwho ?aadt ?ladt ?cadt ?kadt ?aadd ?ladd ?cadd ?kadd ?awm ?lwm ?cwm ?kwm ?amea ?lmea ?cmea ?kmea ?ales ?lles ?cles ?kles ?agre ?lgre ?cgre ?kgre ?asma ?lsma ?csma ?ksma ?ames ?lmes ?cmes ?kmes ?awfr ?lwfr ?cwfr ?kwfr ?aran ?lran ?cran ?kran ?aden ?lden ?cden ?kden ?ao1 ?lo1 ?co1 ?ko1 ?ao2 ?lo2 ?co2 ?ko2 ?ao3 ?lo3 ?co3 ?ko3 ?ao4 ?lo4 ?co4 ?ko4 ?ao5 ?lo5 ?co5 ?ko5 ?ao6 ?lo6 ?co6 ?ko6 ?ao7 ?lo7 ?co7 ?ko7 ?ao8 ?lo8 ?co8 ?ko8 ?ao9 ?lo9 ?co9 ?ko9 ?ao10 ?lo10 ?co10 ?ko10 ?ao11 ?lo11 ?co11 ?ko11 ?ao12 ?lo12 ?co12 ?ko12 ?ao13 ?lo13 ?co13 ?ko13 ?ao14 ?lo14 ?co14 ?ko14 ?ao15 ?lo15 ?co15 ?ko15 ?ao16 ?lo16 ?co16 ?ko16 ?ao17 ?lo17 ?co17 ?ko17 ?ao18 ?lo18 ?co18 ?ko18 ?ao19 ?lo19 ?co19 ?ko19 ?ao20 ?lo20 ?co20 ?ko20 ?aPini ?iPini ?lPini ?cPini ?kPini ?aPtwi ?iPtwi ?lPtwi ?cPtwi ?kPtwi ?aPcnt ?iPcnt ?lPcnt ?cPcnt ?kPcnt ?aPset ?iPset ?lPset ?cPset ?kPset ?aPequ ?iPequ ?lPequ ?cPequ ?kPequ ?aPmov ?iPmov ?lPmov ?cPmov ?kPmov ?aPtem ?iPtem ?lPtem ?cPtem ?kPtem ?aPhea ?iPhea ?lPhea ?cPhea ?kPhea ?aPuni ?iPuni ?lPuni ?cPuni ?kPuni ?aPsam ?iPsam ?lPsam ?cPsam ?kPsam ?aPnow ?iPnow ?lPnow ?cPnow ?kPnow ?aPmea ?iPmea ?lPmea ?cPmea ?kPmea ?aPtur ?iPtur ?lPtur ?cPtur ?kPtur ?aRini ?iRini ?lRini ?cRini ?kRini ?aRcnt ?iRcnt ?lRcnt ?cRcnt ?kRcnt ?aRchk ?iRchk ?lRchk ?cRchk ?kRchk ?aRcap ?iRcap ?lRcap ?cRcap ?kRcap ?aRset ?iRset ?lRset ?cRset ?kRset ?aRall ?iRall ?lRall ?cRall ?kRall ?aRinj ?iRinj ?lRinj ?cRinj ?kRinj ?aRman ?iRman ?lRman ?cRman ?kRman ?aRadv ?iRadv ?lRadv ?cRadv ?kRadv ?aRequ ?iRequ ?lRequ ?cRequ ?kRequ ?aRfor ?iRfor ?lRfor ?cRfor ?kRfor ?aRget ?iRget ?lRget ?cRget ?kRget ?aRhea ?iRhea ?lRhea ?cRhea ?kRhea ?aRhas ?iRhas ?lRhas ?cRhas ?kRhas ?aRchs ?iRchs ?lRchs ?cRchs ?kRchs ?aRbal ?iRbal ?lRbal ?cRbal ?kRbal ?aRhot ?iRhot ?lRhot ?cRhot ?kRhot ?aRcol ?iRcol ?lRcol ?cRcol ?kRcol ?aRbrk ?iRbrk ?lRbrk ?cRbrk ?kRbrk ?aRsav ?iRsav ?lRsav ?cRsav ?kRsav ?aRcmp ?iRcmp ?lRcmp ?cRcmp ?kRcmp ?aRavg ?iRavg ?lRavg ?cRavg ?kRavg ?aRrev ?iRrev ?lRrev ?cRrev ?kRrev ?aRexc ?iRexc ?lRexc ?cRexc ?kRexc ?aKini ?iKini ?lKini ?cKini ?kKini ?aKcar ?iKcar ?lKcar ?cKcar ?kKcar ?aKans ?iKans ?lKans ?cKans ?kKans ?aO ?lO ?liO ?loO ?qo1 ?qo2 ?qo3 ?qo4 ?qo5 ?qo6 ?qo7 ?qo8 ?qo9 ?qo10 ?qo11 ?qo12 ?qo13 ?qo14 ?qo15 ?qo16 ?qo17 ?qo18 ?qo19 ?qo20 ?aA ?lA ?zA ?vA ?aAns ?lAns ?cAns ?kAns
    (case gTX0 => k_is)
    (case xTX0 => k_exc)
    (case pTX0 => k_is)
    (case sTX0 => k_is)
    (case tTX0 => k_is)
    (case iTX0 => first | rfl | k_is)
    (case gTC => k_is)
    (case xTC => k_exc)
    (case pTC => k_is)
    (case sTC => k_is)
    (case tTC => k_is)
    (case iTC => first | rfl | k_is)
    (case gTO => k_is)
    (case xTO => k_exc)
    (case pTO => k_is)
    (case sTO => k_is)
    (case tTO => k_is)
    (case iTO => first | rfl | k_is)
    (case gTN => k_is)
    (case xTN => k_exc)
    (case pTN => k_is)
    (case sTN => k_is)
    (case tTN => k_is)
    (case iTN => first | rfl | k_is)
    (case gTF => k_is)
    (case xTF => k_exc)
    (case pTF => k_is)
    (case sTF => k_is)
    (case tTF => k_is)
    (case iTF => first | rfl | k_is)
    (case gTD => k_is)
    (case xTD => k_exc)
    (case pTD => k_is)
    (case sTD => k_is)
    (case tTD => k_is)
    (case iTD => first | rfl | k_is)
    (case gTB => k_is)
    (case xTB => k_exc)
    (case pTB => k_is)
    (case sTB => k_is)
    (case tTB => k_is)
    (case iTB => first | rfl | k_is)
    (case e00 => first | rfl | k_is)
    (case e10 => first | rfl | k_is)
    (case e11 => first | rfl | k_is)
    (case e20 => first | rfl | k_is)
    (case e21 => first | rfl | k_is)
    (case e22 => first | rfl | k_is)
    (case e30 => first | rfl | k_is)
    (case e31 => first | rfl | k_is)
    (case e32 => first | rfl | k_is)
    (case e33 => first | rfl | k_is)
    (case e40 => first | rfl | k_is)
    (case e41 => first | rfl | k_is)
    (case e42 => first | rfl | k_is)
    (case e43 => first | rfl | k_is)
    (case e44 => first | rfl | k_is)
    (case e50 => first | rfl | k_is)
    (case e51 => first | rfl | k_is)
    (case e52 => first | rfl | k_is)
    (case e53 => first | rfl | k_is)
    (case e54 => first | rfl | k_is)
    (case e55 => first | rfl | k_is)
    (case e60 => first | rfl | k_is)
    (case e61 => first | rfl | k_is)
    (case e62 => first | rfl | k_is)
    (case e63 => first | rfl | k_is)
    (case e64 => first | rfl | k_is)
    (case e65 => first | rfl | k_is)
    (case e66 => first | rfl | k_is)
    (case aCP => k_is)
    (case pgP => k_is)
    (case hdP => k_is)
    (case poP => k_is)
    (case saP => k_is)
    (case mkP => k_is)
    (case kcP => k_is)
    (case nP0 => k_is)
    (case nP1 => k_is)
    (case nP2 => k_is)
    (case aCR => k_is)
    (case pgR => k_is)
    (case hdR => k_is)
    (case poR => k_is)
    (case saR => k_is)
    (case mkR => k_is)
    (case kcR => k_is)
    (case nR0 => k_is)
    (case nR1 => k_is)
    (case nR2 => k_is)
    (case nR3 => k_is)
    (case nR4 => k_is)
    (case nR5 => k_is)
    (case aCK => k_is)
    (case pgK => k_is)
    (case hdK => k_is)
    (case poK => k_is)
    (case saK => k_is)
    (case mkK => k_is)
    (case kcK => k_is)
    (case nK0 => k_is)
    (case m0 => k_is)
    (case m1 => k_is)
    (case m2 => k_is)
    (case m3 => k_is)
    (case m4 => k_is)
    (case m5 => k_is)
    (case m6 => k_is)
    (case m7 => k_is)
    (case m8 => k_is)
    (case zlist => k_is)
    (case zlen => k_is)
    (case zzip => k_is)
    (case zrange => k_is)
    (case zsum => k_is)
    (case zreversed => k_is)
    (case zenumerate => k_is)
    (case zint => k_is)
    (case agcd => k_is)
    (case lgcd => k_is)
    (case cgcd => k_is)
    (case kgcd => k_is)
    (case alow => k_is)
    (case llow => k_is)
    (case clow => k_is)
    (case klow => k_is)
    (case awho => k_is)
    (case lwho => k_is)
    (case cwho => k_is)
    (case kwho => k_is)
    (case aadt => k_is)
    (case ladt => k_is)
    (case cadt => k_is)
    (case kadt => k_is)
    (case aadd => k_is)
    (case ladd => k_is)
    (case cadd => k_is)
    (case kadd => k_is)
    (case awm => k_is)
    (case lwm => k_is)
    (case cwm => k_is)
    (case kwm => k_is)
    (case amea => k_is)
    (case lmea => k_is)
    (case cmea => k_is)
    (case kmea => k_is)
    (case ales => k_is)
    (case lles => k_is)
    (case cles => k_is)
    (case kles => k_is)
    (case agre => k_is)
    (case lgre => k_is)
    (case cgre => k_is)
    (case kgre => k_is)
    (case asma => k_is)
    (case lsma => k_is)
    (case csma => k_is)
    (case ksma => k_is)
    (case ames => k_is)
    (case lmes => k_is)
    (case cmes => k_is)
    (case kmes => k_is)
    (case awfr => k_is)
    (case lwfr => k_is)
    (case cwfr => k_is)
    (case kwfr => k_is)
    (case aran => k_is)
    (case lran => k_is)
    (case cran => k_is)
    (case kran => k_is)
    (case aden => k_is)
    (case lden => k_is)
    (case cden => k_is)
    (case kden => k_is)
    (case ao1 => k_is)
    (case lo1 => k_is)
    (case co1 => k_is)
    (case ko1 => k_is)
    (case ao2 => k_is)
    (case lo2 => k_is)
    (case co2 => k_is)
    (case ko2 => k_is)
    (case ao3 => k_is)
    (case lo3 => k_is)
    (case co3 => k_is)
    (case ko3 => k_is)
    (case ao4 => k_is)
    (case lo4 => k_is)
    (case co4 => k_is)
    (case ko4 => k_is)
    (case ao5 => k_is)
    (case lo5 => k_is)
    (case co5 => k_is)
    (case ko5 => k_is)
    (case ao6 => k_is)
    (case lo6 => k_is)
    (case co6 => k_is)
    (case ko6 => k_is)
    (case ao7 => k_is)
    (case lo7 => k_is)
    (case co7 => k_is)
    (case ko7 => k_is)
    (case ao8 => k_is)
    (case lo8 => k_is)
    (case co8 => k_is)
    (case ko8 => k_is)
    (case ao9 => k_is)
    (case lo9 => k_is)
    (case co9 => k_is)
    (case ko9 => k_is)
    (case ao10 => k_is)
    (case lo10 => k_is)
    (case co10 => k_is)
    (case ko10 => k_is)
    (case ao11 => k_is)
    (case lo11 => k_is)
    (case co11 => k_is)
    (case ko11 => k_is)
    (case ao12 => k_is)
    (case lo12 => k_is)
    (case co12 => k_is)
    (case ko12 => k_is)
    (case ao13 => k_is)
    (case lo13 => k_is)
    (case co13 => k_is)
    (case ko13 => k_is)
    (case ao14 => k_is)
    (case lo14 => k_is)
    (case co14 => k_is)
    (case ko14 => k_is)
    (case ao15 => k_is)
    (case lo15 => k_is)
    (case co15 => k_is)
    (case ko15 => k_is)
    (case ao16 => k_is)
    (case lo16 => k_is)
    (case co16 => k_is)
    (case ko16 => k_is)
    (case ao17 => k_is)
    (case lo17 => k_is)
    (case co17 => k_is)
    (case ko17 => k_is)
    (case ao18 => k_is)
    (case lo18 => k_is)
    (case co18 => k_is)
    (case ko18 => k_is)
    (case ao19 => k_is)
    (case lo19 => k_is)
    (case co19 => k_is)
    (case ko19 => k_is)
    (case ao20 => k_is)
    (case lo20 => k_is)
    (case co20 => k_is)
    (case ko20 => k_is)
    (case aPini => k_is)
    (case iPini => k_is)
    (case lPini => k_is)
    (case cPini => k_is)
    (case kPini => k_is)
    (case aPtwi => k_is)
    (case iPtwi => k_is)
    (case lPtwi => k_is)
    (case cPtwi => k_is)
    (case kPtwi => k_is)
    (case aPcnt => k_is)
    (case iPcnt => k_is)
    (case lPcnt => k_is)
    (case cPcnt => k_is)
    (case kPcnt => k_is)
    (case aPset => k_is)
    (case iPset => k_is)
    (case lPset => k_is)
    (case cPset => k_is)
    (case kPset => k_is)
    (case aPequ => k_is)
    (case iPequ => k_is)
    (case lPequ => k_is)
    (case cPequ => k_is)
    (case kPequ => k_is)
    (case aPmov => k_is)
    (case iPmov => k_is)
    (case lPmov => k_is)
    (case cPmov => k_is)
    (case kPmov => k_is)
    (case aPtem => k_is)
    (case iPtem => k_is)
    (case lPtem => k_is)
    (case cPtem => k_is)
    (case kPtem => k_is)
    (case aPhea => k_is)
    (case iPhea => k_is)
    (case lPhea => k_is)
    (case cPhea => k_is)
    (case kPhea => k_is)
    (case aPuni => k_is)
    (case iPuni => k_is)
    (case lPuni => k_is)
    (case cPuni => k_is)
    (case kPuni => k_is)
    (case aPsam => k_is)
    (case iPsam => k_is)
    (case lPsam => k_is)
    (case cPsam => k_is)
    (case kPsam => k_is)
    (case aPnow => k_is)
    (case iPnow => k_is)
    (case lPnow => k_is)
    (case cPnow => k_is)
    (case kPnow => k_is)
    (case aPmea => k_is)
    (case iPmea => k_is)
    (case lPmea => k_is)
    (case cPmea => k_is)
    (case kPmea => k_is)
    (case aPtur => k_is)
    (case iPtur => k_is)
    (case lPtur => k_is)
    (case cPtur => k_is)
    (case kPtur => k_is)
    (case aRini => k_is)
    (case iRini => k_is)
    (case lRini => k_is)
    (case cRini => k_is)
    (case kRini => k_is)
    (case aRcnt => k_is)
    (case iRcnt => k_is)
    (case lRcnt => k_is)
    (case cRcnt => k_is)
    (case kRcnt => k_is)
    (case aRchk => k_is)
    (case iRchk => k_is)
    (case lRchk => k_is)
    (case cRchk => k_is)
    (case kRchk => k_is)
    (case aRcap => k_is)
    (case iRcap => k_is)
    (case lRcap => k_is)
    (case cRcap => k_is)
    (case kRcap => k_is)
    (case aRset => k_is)
    (case iRset => k_is)
    (case lRset => k_is)
    (case cRset => k_is)
    (case kRset => k_is)
    (case aRall => k_is)
    (case iRall => k_is)
    (case lRall => k_is)
    (case cRall => k_is)
    (case kRall => k_is)
    (case aRinj => k_is)
    (case iRinj => k_is)
    (case lRinj => k_is)
    (case cRinj => k_is)
    (case kRinj => k_is)
    (case aRman => k_is)
    (case iRman => k_is)
    (case lRman => k_is)
    (case cRman => k_is)
    (case kRman => k_is)
    (case aRadv => k_is)
    (case iRadv => k_is)
    (case lRadv => k_is)
    (case cRadv => k_is)
    (case kRadv => k_is)
    (case aRequ => k_is)
    (case iRequ => k_is)
    (case lRequ => k_is)
    (case cRequ => k_is)
    (case kRequ => k_is)
    (case aRfor => k_is)
    (case iRfor => k_is)
    (case lRfor => k_is)
    (case cRfor => k_is)
    (case kRfor => k_is)
    (case aRget => k_is)
    (case iRget => k_is)
    (case lRget => k_is)
    (case cRget => k_is)
    (case kRget => k_is)
    (case aRhea => k_is)
    (case iRhea => k_is)
    (case lRhea => k_is)
    (case cRhea => k_is)
    (case kRhea => k_is)
    (case aRhas => k_is)
    (case iRhas => k_is)
    (case lRhas => k_is)
    (case cRhas => k_is)
    (case kRhas => k_is)
    (case aRchs => k_is)
    (case iRchs => k_is)
    (case lRchs => k_is)
    (case cRchs => k_is)
    (case kRchs => k_is)
    (case aRbal => k_is)
    (case iRbal => k_is)
    (case lRbal => k_is)
    (case cRbal => k_is)
    (case kRbal => k_is)
    (case aRhot => k_is)
    (case iRhot => k_is)
    (case lRhot => k_is)
    (case cRhot => k_is)
    (case kRhot => k_is)
    (case aRcol => k_is)
    (case iRcol => k_is)
    (case lRcol => k_is)
    (case cRcol => k_is)
    (case kRcol => k_is)
    (case aRbrk => k_is)
    (case iRbrk => k_is)
    (case lRbrk => k_is)
    (case cRbrk => k_is)
    (case kRbrk => k_is)
    (case aRsav => k_is)
    (case iRsav => k_is)
    (case lRsav => k_is)
    (case cRsav => k_is)
    (case kRsav => k_is)
    (case aRcmp => k_is)
    (case iRcmp => k_is)
    (case lRcmp => k_is)
    (case cRcmp => k_is)
    (case kRcmp => k_is)
    (case aRavg => k_is)
    (case iRavg => k_is)
    (case lRavg => k_is)
    (case cRavg => k_is)
    (case kRavg => k_is)
    (case aRrev => k_is)
    (case iRrev => k_is)
    (case lRrev => k_is)
    (case cRrev => k_is)
    (case kRrev => k_is)
    (case aRexc => k_is)
    (case iRexc => k_is)
    (case lRexc => k_is)
    (case cRexc => k_is)
    (case kRexc => k_is)
    (case aKini => k_is)
    (case iKini => k_is)
    (case lKini => k_is)
    (case cKini => k_is)
    (case kKini => k_is)
    (case aKcar => k_is)
    (case iKcar => k_is)
    (case lKcar => k_is)
    (case cKcar => k_is)
    (case kKcar => k_is)
    (case aKans => k_is)
    (case iKans => k_is)
    (case lKans => k_is)
    (case cKans => k_is)
    (case kKans => k_is)
    (case aO => k_is)
    (case lO => k_is)
    (case liO => decide +kernel)
    (case loO => first | rfl | decide +kernel)
    (case qo1 => first | rfl | decide +kernel)
    (case qo2 => first | rfl | decide +kernel)
    (case qo3 => first | rfl | decide +kernel)
    (case qo4 => first | rfl | decide +kernel)
    (case qo5 => first | rfl | decide +kernel)
    (case qo6 => first | rfl | decide +kernel)
    (case qo7 => first | rfl | decide +kernel)
    (case qo8 => first | rfl | decide +kernel)
    (case qo9 => first | rfl | decide +kernel)
    (case qo10 => first | rfl | decide +kernel)
    (case qo11 => first | rfl | decide +kernel)
    (case qo12 => first | rfl | decide +kernel)
    (case qo13 => first | rfl | decide +kernel)
    (case qo14 => first | rfl | decide +kernel)
    (case qo15 => first | rfl | decide +kernel)
    (case qo16 => first | rfl | decide +kernel)
    (case qo17 => first | rfl | decide +kernel)
    (case qo18 => first | rfl | decide +kernel)
    (case qo19 => first | rfl | decide +kernel)
    (case qo20 => first | rfl | decide +kernel)
    (case aA => k_is)
    (case lA => k_is)
    (case zA => show _ ≤ 16777216; decide +kernel)
    (case vA => repeat (first | exact .nil | refine .cons ⟨_, rfl⟩ ?_))
    (case aAns => k_is)
    (case lAns => k_is)
    (case cAns => k_is)
    (case kAns => k_is)
  case S =>
    intro K H xs a hO hwi hask hx
    cases hx with
    | cons h1 h2 =>
      cases h2
      cases h1 with
      | lst hs ha =>
        have e := L2.ints_dw a.1 _ ha
        subst e
        have q : ((Codec.inLen 0 600 a.1 && a.1.all (Codec.inInt 0 4294967295)) && true) = true := hwi
        rw [Bool.and_eq_true, Bool.and_eq_true] at q
        refine ⟨_, a.1, rfl, hs, (Codec.inNat_iff.mp q.1.1).2, fun x hx => ?_, hask, fun H' p hp => .lst (L2.SqL.of hp) (L2.dw_ints _)⟩
        have z := List.all_eq_true.mp q.1.2 x hx
        exact ⟨(Codec.inInt_iff.mp z).1, by have := (Codec.inInt_iff.mp z).2; omega⟩
