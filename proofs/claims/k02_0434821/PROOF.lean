import PyProof.Rows.All
import Wide.All
import OpenK.AllK
import Wide.FinOn
import HandS.ForMost
import HandS.Walk
import HandS.Evl
import HandS.ExcValue
import HandS.IsInst
import HandS.ExcIs
import HandS.TupLe
import KE.KStateDown
import HandS.Head0
import HandS.Head1
import HandS.Head2
import HandS.HeadEnd
import HandS.HeadHook1
import HandS.HeadHook2
import PySem.Challenge.RW_keptcalls_k02_errors_by_hand
set_option Elab.async false
set_option linter.all false
set_option maxRecDepth 100000
set_option maxHeartbeats 4000000
namespace Kc
open PySem PySem.Spec PyProof.Rows L2 Evl
def top (i : Nat) : Stmt := PySem.Challenge.pw_keptcalls_k02_errors_by_hand.main.body.getD i (.Pass ⟨0, 0, 0, 0⟩)
abbrev s_law_open : Stmt := top 42
abbrev n_law_open : List Str := ["script", "cells", "k", "cell"]
abbrev p_law_open : List Str := ["script"]
theorem sc_law_open : FnScope n_law_open p_law_open (defScope s_law_open) := ⟨rfl, rfl, rfl, by decide +kernel, rfl, by decide +kernel, by decide +kernel⟩
abbrev s_law_spread : Stmt := top 43
abbrev n_law_spread : List Str := ["cell", "at", "primes", "u", "v", "w"]
abbrev p_law_spread : List Str := ["cell", "at"]
theorem sc_law_spread : FnScope n_law_spread p_law_spread (defScope s_law_spread) := ⟨rfl, rfl, rfl, by decide +kernel, rfl, by decide +kernel, by decide +kernel⟩
abbrev s_law_take : Stmt := top 44
abbrev n_law_take : List Str := ["pen", "amount", "at", "cell", "found"]
abbrev p_law_take : List Str := ["pen", "amount"]
theorem sc_law_take : FnScope n_law_take p_law_take (defScope s_law_take) := ⟨rfl, rfl, rfl, by decide +kernel, rfl, by decide +kernel, by decide +kernel⟩
/-! ### a def that may be called -/
structure Cd (P : Program) (w : World) (K : PySem.W.Frag) (mg : Str → Option Value) (base : Heap) (x : Str) (ps : List Str) (k : Nat) (sp : Sp) : Prop where
  ex : ∃ (f : Addr) (fd : FuncData), FnOk P w K mg base CX0 k f fd ps sp ∧ mg x = some (.ref f) ∧ PySem.W.keepIn K (.ref f) = true ∧ Binds K fd ps []
theorem pe_cd {X : Cx} {k : Nat} {x : Str} {ps : List Str} {sp : Sp} {e : Expr} {es : List Expr} {t : TA} {p pos : Pos} (C : Cd X.prog X.w X.K X.mg X.base x ps k sp) (hr : Room k X.A) (hg : Gl X x) (ha : PA X (e :: es) t)
    (hdb : (x == ("__debug__" : Str)) = false := by decide) (he : starEach (e :: es) X.env = (false, eval e X.env) :: starEach es X.env := by rfl) (hpl : (backTo pos (starEach es X.env)).any (·.1) = false := by rfl) :
    PE X (.Call (.Name x p) (e :: es) [] pos) (tCall sp [] E0 t) := by
  obtain ⟨f, fd, F, hm, hk, hb⟩ := C.ex
  exact pe_call F hr hg hm hk hb .nil pass0 ha hdb he hpl
/-- the built-in names that stand as they were -/
structure Bt (mg : Str → Option Value) : Prop where
  b_int : mg "int" = none
  b_len : mg "len" = none
  b_list : mg "list" = none
  b_enumerate : mg "enumerate" = none
  b_range : mg "range" = none
  b_isinstance : mg "isinstance" = none
  b_tuple : mg "tuple" = none
  b_ValueError : mg "ValueError" = none
/-! ### the pen: a list of cells, a place, what is left of a number -/
def Pen (p c : Addr) (n : Nat) (H : Hp) : Prop := ∃ (ns : List Int) (k : Nat) (r : Int), c ≠ p ∧ H p = some (.lst [.ref c, .int (k : Int), .int r]) ∧ H c = some (.lst (ns.map V.int)) ∧ k ≤ n ∧ 0 ≤ r
/-- all but p stays -/
def ExP (p : Addr) (H H' : Hp) : Prop := ∀ a o, a ≠ p → H a = some o → H' a = some o
theorem ExP.refl (p : Addr) (H : Hp) : ExP p H H := fun _ _ _ h => h
theorem ExP.of {p : Addr} {H H' : Hp} (e : Ex H H') : ExP p H H' := fun a o _ h => e a o h
theorem ExP.trans {p : Addr} {H H1 H2 : Hp} (a : ExP p H H1) (b : ExP p H1 H2) : ExP p H H2 := fun x o n h => b x o n (a x o n h)
theorem ExP.upd {p : Addr} {H H1 : Hp} (a : ExP p H H1) (o : HO) : ExP p H (upd H1 p o) := fun x u n h => by
  rw [upd_ne n]
  exact a x u n h
theorem Pen.ex {p c : Addr} {n : Nat} {H H' : Hp} (h : Pen p c n H) (e : Ex H H') : Pen p c n H' := by
  obtain ⟨ns, k, r, h1, h2, h3, h4, h5⟩ := h
  exact ⟨ns, k, r, h1, e _ _ h2, e _ _ h3, h4, h5⟩
theorem Pen.mono {p c : Addr} {n m : Nat} {H : Hp} (h : Pen p c n H) (e : n ≤ m) : Pen p c m H := by
  obtain ⟨ns, k, r, h1, h2, h3, h4, h5⟩ := h
  exact ⟨ns, k, r, h1, h2, h3, Nat.le_trans h4 e, h5⟩
/-- a base that does not know the pen stays -/
theorem ex_expB {p : Addr} {B H H' : Hp} (b : Ex B H) (bp : B p = none) (e : ExP p H H') : Ex B H' := fun a o h => e a o (fun q => by rw [q, bp] at h; cases h) (b a o h)

def spSpread : Sp := fun vs H Q _ => ∃ (cell : Int) (k : Nat), vs = [.int cell, .int (k : Int)] ∧ k < 1048576 ∧ ∀ H' (r : Int), Ex H H' → 0 ≤ r → Q (.int r) H'
def spTake : Sp := fun vs H Q _ => ∃ (p c : Addr) (n : Nat) (m : Int), vs = [.ref p, .int m] ∧ Pen p c n H ∧ n < 1048576 ∧ 0 < m ∧ m < 1073741824 ∧ ∀ (f : Int) (H' : Hp), 0 ≤ f → f < m → ExP p H H' → Pen p c (n + 1) H' → Q (.int f) H'
def spOpen (K : PySem.W.Frag) : Sp := fun vs H Q _ => ∃ (a : Addr) (ns : List Int), vs = [.ref a] ∧ SqL K H a (ns.map V.int) ∧ ns.length ≤ 63 ∧ ∀ (p c : Addr) (H' : Hp), H p = none → H c = none → Ex H H' → Pen p c 0 H' → Q (.ref p) H'

section
variable {P : Program} {w : World} {K : PySem.W.Frag} {mg : Str → Option Value} {base : Heap}
def prs1 : List Int := [2147483629, 2147483587, 2147483579, 2147483563, 2147483549, 2147483543, 2147483497, 2147483489]
def prs2 : List Int := [2147483477, 2147483423, 2147483399, 2147483353, 2147483323]
def prs : List Int := prs1 ++ prs2
theorem prs_pos (i : Nat) (hi : i < 13) : ∃ q : Int, (prs.map V.int)[i]? = some (.int q) ∧ 0 < q ∧ q < 2147483648 := by
  have e : i < prs.length := hi
  refine ⟨prs[i], by rw [List.getElem?_map, List.getElem?_eq_getElem e]; rfl, ?_⟩
  have h : ∀ q ∈ prs, 0 < q ∧ q < 2147483648 := by decide +kernel
  exact h _ (List.getElem_mem e)
theorem prs_at (x : Int) : ∃ q : Int, atI (prs.map V.int) (x % 13) = some (.int q) ∧ 0 < q ∧ q < 2147483648 := by
  have h0 : 0 ≤ x % 13 := Int.emod_nonneg _ (by decide)
  have h1 : x % 13 < 13 := Int.emod_lt_of_pos _ (by decide)
  obtain ⟨q, e, h⟩ := prs_pos (x % 13).toNat (by omega)
  refine ⟨q, ?_, h⟩
  have z := atI_nat e
  rw [show (((x % 13).toNat : Nat) : Int) = x % 13 by omega] at z
  exact z
theorem spread_u {cell : Int} {k : Nat} (hk : k < 1048576) : (cell % 1000000007 * (2 * (k : Int) + 69069) + (k : Int) * 40503 + 977).natAbs < 2 ^ 64 := by
  have h0 : 0 ≤ cell % 1000000007 := Int.emod_nonneg _ (by decide)
  have h1 : cell % 1000000007 < 1000000007 := Int.emod_lt_of_pos _ (by decide)
  have h2 : 0 ≤ cell % 1000000007 * (2 * (k : Int) + 69069) := Int.mul_nonneg h0 (by omega)
  have h3 : cell % 1000000007 * (2 * (k : Int) + 69069) ≤ 1000000007 * (2 * 1048576 + 69069) := Int.mul_le_mul (by omega) (by omega) (by omega) (by omega)
  omega
theorem spread_v {u cell : Int} {k : Nat} (hk : k < 1048576) (hu : 0 ≤ u) (hu2 : u < 2147483648) : (u * ((k : Int) + 3) + cell % 65537 + 5).natAbs < 2 ^ 64 := by
  have h0 : 0 ≤ cell % 65537 := Int.emod_nonneg _ (by decide)
  have h1 : cell % 65537 < 65537 := Int.emod_lt_of_pos _ (by decide)
  have h2 : 0 ≤ u * ((k : Int) + 3) := Int.mul_nonneg hu (by omega)
  have h3 : u * ((k : Int) + 3) ≤ 2147483648 * (1048576 + 3) := Int.mul_le_mul (by omega) (by omega) (by omega) (by omega)
  omega
theorem spread_w {u v : Int} {k : Nat} (hk : k < 1048576) (hv : 0 ≤ v) (hv2 : v < 2147483648) : (v + u % 1009 + (k : Int)).natAbs < 2 ^ 64 := by
  have h0 : 0 ≤ u % 1009 := Int.emod_nonneg _ (by decide)
  have h1 : u % 1009 < 1009 := Int.emod_lt_of_pos _ (by decide)
  omega
theorem ev_add {σ : L2.St} {H : Hp} {ta tb : TE} {i j : Int} (ha : Ev ta σ H (.int i)) (hb : Ev tb σ H (.int j)) : Ev (tOp (rI0 fun i j => .int (i + j)) ta tb) σ H (.int (i + j)) := ev_op ha hb rv_I0
theorem ev_sub {σ : L2.St} {H : Hp} {ta tb : TE} {i j : Int} (ha : Ev ta σ H (.int i)) (hb : Ev tb σ H (.int j)) : Ev (tOp (rI0 fun i j => .int (i - j)) ta tb) σ H (.int (i - j)) := ev_op ha hb rv_I0
theorem ev_mulL {σ : L2.St} {H : Hp} {ta tb : TE} {i j : Int} (ha : Ev ta σ H (.int i)) (hb : Ev tb σ H (.int j)) (hc : -(2 ^ 64) < i ∧ i < 2 ^ 64) : Ev (tOp (rI CMul fun i j => .int (i * j)) ta tb) σ H (.int (i * j)) := ev_op ha hb (rv_I (.inl hc))
theorem ev_mulR {σ : L2.St} {H : Hp} {ta tb : TE} {i j : Int} (ha : Ev ta σ H (.int i)) (hb : Ev tb σ H (.int j)) (hc : -(2 ^ 64) < j ∧ j < 2 ^ 64) : Ev (tOp (rI CMul fun i j => .int (i * j)) ta tb) σ H (.int (i * j)) := ev_op ha hb (rv_I (.inr hc))
theorem ev_mod {σ : L2.St} {H : Hp} {ta tb : TE} {i j : Int} (ha : Ev ta σ H (.int i)) (hb : Ev tb σ H (.int j)) (hc : 0 < j) : Ev (tOp (rI (fun _ j => 0 < j) fun i j => .int (i % j)) ta tb) σ H (.int (i % j)) := ev_op ha hb (rv_I (C := fun _ j => 0 < j) hc)
theorem ev_pow {σ : L2.St} {H : Hp} {ta tb : TE} {i j : Int} (ha : Ev ta σ H (.int i)) (hb : Ev tb σ H (.int j)) (hc : CPow i j) : Ev (tOp (rI CPow fun i j => .int (i ^ j.toNat)) ta tb) σ H (.int (i ^ j.toNat)) := ev_op ha hb (rv_I hc)
theorem ev_int1 {σ : L2.St} {H : Hp} {ta : TE} {i : Int} (ha : Ev ta σ H (.int i)) : Ev (tCB (fun xs H Q => (∃ i, xs = [.int i] ∧ Q (.int i) H) ∨ ∃ k, xs = [.bl k] ∧ Q (.int (if k then 1 else 0)) H) (tCons ta tNil)) σ H (.int i) :=
  ev_cb (ea_cons ha ea_nil) fun H1 _ _ q => .inl ⟨i, rfl, q H1 (Ex.refl H1)⟩
theorem ev_ixL {σ : L2.St} {H : Hp} {ta tb : TE} {p : Addr} {xs : List V} {i : Int} {v : V} (ha : Ev ta σ H (.ref p)) (hb : Ev tb σ H (.int i)) (h : SqL K H p xs) (hi : atI xs i = some v) : Ev (tOp (rIxL K) ta tb) σ H v := ev_op ha hb (rv_ixL h hi)
theorem ev_lt {σ : L2.St} {H : Hp} {ta tb : TE} {i j : Int} (ha : Ev ta σ H (.int i)) (hb : Ev tb σ H (.int j)) : Ev (tOp (rI0 fun i j => .bl (decide (i < j))) ta tb) σ H (.bl (decide (i < j))) := ev_op ha hb rv_I0
theorem ev_ge {σ : L2.St} {H : Hp} {ta tb : TE} {i j : Int} (ha : Ev ta σ H (.int i)) (hb : Ev tb σ H (.int j)) : Ev (tOp (rI0 fun i j => .bl (decide (j ≤ i))) ta tb) σ H (.bl (decide (j ≤ i))) := ev_op ha hb rv_I0
theorem ev_le {σ : L2.St} {H : Hp} {ta tb : TE} {i j : Int} (ha : Ev ta σ H (.int i)) (hb : Ev tb σ H (.int j)) : Ev (tOp (rI0 fun i j => .bl (decide (i ≤ j))) ta tb) σ H (.bl (decide (i ≤ j))) := ev_op ha hb rv_I0
theorem ev_gt {σ : L2.St} {H : Hp} {ta tb : TE} {i j : Int} (ha : Ev ta σ H (.int i)) (hb : Ev tb σ H (.int j)) : Ev (tOp (rI0 fun i j => .bl (decide (j < i))) ta tb) σ H (.bl (decide (j < i))) := ev_op ha hb rv_I0
theorem el_cat {σ : L2.St} {H : Hp} {ta tb : TE} {p : Addr} {xs ys : List V} (ha : Ev ta σ H (.ref p)) (hp : H p = some (.lst xs)) (hb : EvL tb σ H ys) (hz : xs.length + ys.length ≤ 100000) : EvL (tOp rCat ta tb) σ H (xs ++ ys) := fun H1 e Q k =>
  ha H1 e _ fun H2 e2 => hb H2 (e.trans e2) _ fun q H3 _ e3 hq => ⟨p, q, xs, ys, rfl, rfl, e3 _ _ (e2 _ _ (e _ _ hp)), hq, sz_of hz, fun l hl => k l _ (fresh_back (e2.trans e3) hl) ((e2.trans e3).trans (Ex.new hl)) upd_same⟩
theorem ok_spread {f : Addr} {fd : FuncData} (F : Fun K "_law_spread" "_law_spread" s_law_spread f fd) (B : Bt mg) : FnOk P w K mg base CX0 1 f fd p_law_spread spSpread := by
  refine F.ok sc_law_spread (fun vs H Q E h => ?_) (fun cdv A outer s H vs Q E hr h => ?_)
  · obtain ⟨c, k, rfl, _⟩ := h
    rfl
  · obtain ⟨c, k, rfl, hk, q⟩ := h
    refine ⟨_, (pss_cons (ps_if (pt_cmpR op_ge (pv 0) (pe_op op_pow pe_int pe_int) (nomark _)) (pss_one (ps_ret (pv 0))) pss_nil)
    (pss_cons (ps_set (i := 2) sc_law_spread.nd rfl (.inl rfl) (pe_lst (pa_cons pe_int (pa_cons pe_int (pa_cons pe_int (pa_cons pe_int (pa_cons pe_int (pa_cons pe_int (pa_cons pe_int (pa_cons pe_int pa_nil))))))))))
    (pss_cons (ps_set (i := 2) sc_law_spread.nd rfl (.inl rfl) (pe_op op_cat (pv 2) (pe_lst (pa_cons pe_int (pa_cons pe_int (pa_cons pe_int (pa_cons pe_int (pa_cons pe_int pa_nil))))))))
    (pss_cons (ps_set (i := 3) sc_law_spread.nd rfl (.inl rfl) (pe_op op_add (pe_op op_add (pe_op op_mul (pe_op op_mod (pe_callTy call_int1 (by rfl) B.b_int (by decide +kernel) (pa_cons (pv 0) pa_nil)) pe_int) (pe_op op_add (pe_op op_mul pe_int (pv 1)) pe_int)) (pe_op op_mul (pv 1) pe_int)) pe_int))
    (pss_cons (ps_set (i := 3) sc_law_spread.nd rfl (.inl rfl) (pe_op op_mod (pe_callTy call_int1 (by rfl) B.b_int (by decide +kernel) (pa_cons (pe_op op_pow (pv 3) pe_int) pa_nil)) (pe_ix (r := rIxL K) ix_list (pv 2) (pe_op op_mod (pe_callTy call_int1 (by rfl) B.b_int (by decide +kernel) (pa_cons (pv 1) pa_nil)) pe_int) (fun _ _ => rfl))))
    (pss_cons (ps_set (i := 4) sc_law_spread.nd rfl (.inl rfl) (pe_op op_mod (pe_callTy call_int1 (by rfl) B.b_int (by decide +kernel) (pa_cons (pe_op op_pow (pe_op op_add (pe_op op_add (pe_op op_mul (pv 3) (pe_op op_add (pv 1) pe_int)) (pe_op op_mod (pe_callTy call_int1 (by rfl) B.b_int (by decide +kernel) (pa_cons (pv 0) pa_nil)) pe_int)) pe_int) pe_int) pa_nil)) (pe_ix (r := rIxL K) ix_list (pv 2) (pe_op op_mod (pe_callTy call_int1 (by rfl) B.b_int (by decide +kernel) (pa_cons (pe_op op_add (pv 1) pe_int) pa_nil)) pe_int) (fun _ _ => rfl))))
    (pss_cons (ps_set (i := 5) sc_law_spread.nd rfl (.inl rfl) (pe_op op_mod (pe_callTy call_int1 (by rfl) B.b_int (by decide +kernel) (pa_cons (pe_op op_pow (pe_op op_add (pe_op op_add (pv 4) (pe_op op_mod (pe_callTy call_int1 (by rfl) B.b_int (by decide +kernel) (pa_cons (pv 3) pa_nil)) pe_int)) (pv 1)) pe_int) pa_nil)) (pe_ix (r := rIxL K) ix_list (pv 2) (pe_op op_mod (pe_callTy call_int1 (by rfl) B.b_int (by decide +kernel) (pa_cons (pe_op op_add (pv 1) pe_int) pa_nil)) pe_int) (fun _ _ => rfl))))
    (pss_one (ps_ret (pe_op op_add (pe_op op_mul (pe_op op_add (pe_op op_mul (pv 3) pe_int) (pv 4)) pe_int) (pv 5))))))))))), ?_⟩
    have c18 : CPow 10 18 := ⟨by decide, by decide, by decide⟩
    refine q_when (et_test (ev_ge (ev_var rfl) (ev_pow ev_c ev_c c18))) (fun e H1 x1 => ?_) (fun e H1 x1 => ?_)
    · refine s_ret (ev_var rfl) fun H2 x2 => q H2 c (x1.trans x2) ?_
      exact Int.le_trans (by decide +kernel) (of_decide_eq_true e)
    · refine q_asgL (xs := prs1.map V.int) (el_lst (ea_cons ev_c (ea_cons ev_c (ea_cons ev_c (ea_cons ev_c (ea_cons ev_c (ea_cons ev_c (ea_cons ev_c (ea_cons ev_c ea_nil)))))))) (by decide)) fun l1 H2 _ x2 h2 => ?_
      refine q_asgL (xs := prs.map V.int) (el_cat (ys := prs2.map V.int) (ev_var rfl) h2 (el_lst (ea_cons ev_c (ea_cons ev_c (ea_cons ev_c (ea_cons ev_c (ea_cons ev_c ea_nil))))) (by decide)) (by decide)) fun l2 H3 _ x3 h3 => ?_
      have m0 : 0 ≤ c % 1000000007 := Int.emod_nonneg _ (by decide)
      have m1 : c % 1000000007 < 1000000007 := Int.emod_lt_of_pos _ (by decide)
      refine q_asg (ev_add (ev_add (ev_mulL (ev_mod (ev_int1 (ev_var rfl)) ev_c (by decide)) (ev_add (ev_mulL ev_c (ev_var rfl) (by decide)) ev_c) (by omega)) (ev_mulR (ev_var rfl) ev_c (by decide))) ev_c) fun H4 x4 => ?_
      obtain ⟨q1, a1, b1, b2⟩ := prs_at k
      refine q_asg (ev_mod (ev_int1 (ev_pow (ev_var rfl) ev_c ⟨by decide, by decide, spread_u hk⟩)) (ev_ixL (ev_var rfl) (ev_mod (ev_int1 (ev_var rfl)) ev_c (by decide)) (ex_l x4 (sq_of h3)) a1) b1) fun H5 x5 => ?_
      obtain ⟨u, eu⟩ : ∃ u, u = (c % 1000000007 * (2 * (k : Int) + 69069) + (k : Int) * 40503 + 977) ^ (3 : Int).toNat % q1 := ⟨_, rfl⟩
      have u0 : 0 ≤ u := by rw [eu]; exact Int.emod_nonneg _ (by omega)
      have u1 : u < 2147483648 := by rw [eu]; exact Int.lt_trans (Int.emod_lt_of_pos _ b1) b2
      rw [← eu]
      obtain ⟨q2, a2, b3, b4⟩ := prs_at ((k : Int) + 5)
      refine q_asg (ev_mod (ev_int1 (ev_pow (ev_add (ev_add (ev_mulL (ev_var rfl) (ev_add (ev_var rfl) ev_c) (by omega)) (ev_mod (ev_int1 (ev_var rfl)) ev_c (by decide))) ev_c) ev_c ⟨by decide, by decide, spread_v hk u0 u1⟩)) (ev_ixL (ev_var rfl) (ev_mod (ev_int1 (ev_add (ev_var rfl) ev_c)) ev_c (by decide)) (ex_l (x4.trans x5) (sq_of h3)) a2) b3) fun H6 x6 => ?_
      obtain ⟨v, evq⟩ : ∃ v, v = (u * ((k : Int) + 3) + c % 65537 + 5) ^ (5 : Int).toNat % q2 := ⟨_, rfl⟩
      have v0 : 0 ≤ v := by rw [evq]; exact Int.emod_nonneg _ (by omega)
      have v1 : v < 2147483648 := by rw [evq]; exact Int.lt_trans (Int.emod_lt_of_pos _ b3) b4
      rw [← evq]
      obtain ⟨q3, a3, b5, b6⟩ := prs_at ((k : Int) + 7)
      refine q_asg (ev_mod (ev_int1 (ev_pow (ev_add (ev_add (ev_var rfl) (ev_mod (ev_int1 (ev_var rfl)) ev_c (by decide))) (ev_var rfl)) ev_c ⟨by decide, by decide, spread_w hk v0 v1⟩)) (ev_ixL (ev_var rfl) (ev_mod (ev_int1 (ev_add (ev_var rfl) ev_c)) ev_c (by decide)) (ex_l ((x4.trans x5).trans x6) (sq_of h3)) a3) b5) fun H7 x7 => ?_
      obtain ⟨y, ey⟩ : ∃ y, y = (v + u % 1009 + (k : Int)) ^ (3 : Int).toNat % q3 := ⟨_, rfl⟩
      have y0 : 0 ≤ y := by rw [ey]; exact Int.emod_nonneg _ (by omega)
      rw [← ey]
      refine s_ret (ev_add (ev_mulR (ev_add (ev_mulR (ev_var rfl) ev_c (by decide)) (ev_var rfl)) ev_c (by decide)) (ev_var rfl)) fun H8 x8 => q H8 _ (((((((x1.trans x2).trans x3).trans x4).trans x5).trans x6).trans x7).trans x8) ?_
      omega
theorem ev_fdiv {σ : L2.St} {H : Hp} {ta tb : TE} {i j : Int} (ha : Ev ta σ H (.int i)) (hb : Ev tb σ H (.int j)) (hc : CDivN i j) : Ev (tOp (rI CDivN fun i j => .int (i.fdiv j)) ta tb) σ H (.int (i.fdiv j)) := ev_op ha hb (rv_I hc)
theorem ev_lenL {σ : L2.St} {H : Hp} {ta : TE} {p : Addr} {xs : List V} (ha : Ev ta σ H (.ref p)) (h : SqL K H p xs) : Ev (tCB (fun vs H Q => ∃ p ys, vs = [.ref p] ∧ (SqL K H p ys ∨ SqT K H p ys) ∧ Q (.int ys.length) H) (tCons ta tNil)) σ H (.int (xs.length : Int)) := ev_len ha h
theorem atI_emod {ns : List Int} (h : 0 < ns.length) (x : Int) : ∃ z, atI (ns.map V.int) (x % (ns.length : Int)) = some (.int z) := by
  have h0 : 0 ≤ x % (ns.length : Int) := Int.emod_nonneg _ (by omega)
  have h1 : x % (ns.length : Int) < ns.length := Int.emod_lt_of_pos _ (by omega)
  have e : (x % (ns.length : Int)).toNat < ns.length := by omega
  refine ⟨ns[(x % (ns.length : Int)).toNat], ?_⟩
  have z : atI (ns.map V.int) (((x % (ns.length : Int)).toNat : Nat) : Int) = some (.int ns[(x % (ns.length : Int)).toNat]) := atI_nat (by rw [List.getElem?_map, List.getElem?_eq_getElem e]; rfl)
  rw [show (((x % (ns.length : Int)).toNat : Nat) : Int) = x % (ns.length : Int) by omega] at z
  exact z
theorem ok_take {f : Addr} {fd : FuncData} (F : Fun K "_law_take" "_law_take" s_law_take f fd) (B : Bt mg) (C_law_spread : Cd P w K mg base "_law_spread" p_law_spread 1 spSpread) : FnOk P w K mg base CX0 2 f fd p_law_take spTake := by
  refine F.ok sc_law_take (fun vs H Q E h => ?_) (fun cdv A outer s H vs Q E hr h => ?_)
  · obtain ⟨p, c, n, m, rfl, _⟩ := h
    rfl
  · obtain ⟨p, c, n, m, rfl, ⟨ns, k, r, hcp, hp, hc, hk, hr0⟩, hn, m0, m1, q⟩ := h
    refine ⟨_, (pss_cut (ps_if (pt_cmpR op_lt (pe_ix (r := rIxL K) ix_list (pv 0) pe_int (fun _ _ => rfl)) (pv 1) (nomark _)) (pss_cons (ps_set (i := 2) sc_law_take.nd rfl (.inl rfl) (pe_ix (r := rIxL K) ix_list (pv 0) pe_int (fun _ _ => rfl)))
    (pss_cons (ps_set (i := 3) sc_law_take.nd rfl (.inl rfl) pe_int)
    (pss_cut (ps_if (pt_cmpR op_lt (pv 2) (pe_callB (r := rLenS K) call_len_seq (by rfl) B.b_len (by decide +kernel) (pa_cons (pe_ix (r := rIxL K) ix_list (pv 0) pe_int (fun _ _ => rfl)) pa_nil)) (nomark _)) (pss_one (ps_set (i := 3) sc_law_take.nd rfl (.inl rfl) (pe_ix (r := rIxL K) ix_list (pe_ix (r := rIxL K) ix_list (pv 0) pe_int (fun _ _ => rfl)) (pv 2) (fun _ _ => rfl)))) (pss_one (ps_if (pt_cmpR op_gt (pe_callB (r := rLenS K) call_len_seq (by rfl) B.b_len (by decide +kernel) (pa_cons (pe_ix (r := rIxL K) ix_list (pv 0) pe_int (fun _ _ => rfl)) pa_nil)) pe_int (nomark _)) (pss_one (ps_set (i := 3) sc_law_take.nd rfl (.inl rfl) (pe_op op_mod (pe_callTy call_int1 (by rfl) B.b_int (by decide +kernel) (pa_cons (pe_ix (r := rIxL K) ix_list (pe_ix (r := rIxL K) ix_list (pv 0) pe_int (fun _ _ => rfl)) (pe_op op_mod (pe_callTy call_int1 (by rfl) B.b_int (by decide +kernel) (pa_cons (pe_op op_add (pe_op op_mul (pv 2) pe_int) pe_int) pa_nil)) (pe_callB (r := rLenS K) call_len_seq (by rfl) B.b_len (by decide +kernel) (pa_cons (pe_ix (r := rIxL K) ix_list (pv 0) pe_int (fun _ _ => rfl)) pa_nil))) (fun _ _ => rfl)) pa_nil)) (pe_op op_add (pe_op op_pow pe_int pe_int) (pv 2))))) pss_nil)))
    (pss_cons (ps_asg (pe_op op_add (pv 2) pe_int) (pg_sub (pv 0) pe_int set_list))
    (pss_one (ps_asg (pe_cd C_law_spread (hr.mono (by decide)) (by rfl) (pa_cons (pv 3) (pa_cons (pv 2) pa_nil))) (pg_sub (pv 0) pe_int set_list))))))) pss_nil)
    (pss_cons (ps_set (i := 4) sc_law_take.nd rfl (.inl rfl) (pe_op op_mod (pe_callTy call_int1 (by rfl) B.b_int (by decide +kernel) (pa_cons (pe_ix (r := rIxL K) ix_list (pv 0) pe_int (fun _ _ => rfl)) pa_nil)) (pv 1)))
    (pss_cons (ps_asg (pe_op op_fdivN (pe_ix (r := rIxL K) ix_list (pv 0) pe_int (fun _ _ => rfl)) (pv 1)) (pg_sub (pv 0) pe_int set_list))
    (pss_one (ps_ret (pv 4)))))), ?_⟩
    refine q_cut (M := fun σ' H' => ∃ x2 x3 x4 k' r', σ' = [some (.ref p), some (.int m), x2, x3, x4] ∧ ExP p H H' ∧ H' p = some (.lst [.ref c, .int ((k' : Nat) : Int), .int r']) ∧ H' c = some (.lst (ns.map V.int)) ∧ k' ≤ n + 1 ∧ 0 ≤ r') ?_ ?_
    · refine s_when (et_test (ev_lt (ev_ixL (ev_var rfl) ev_c (sq_of hp) rfl) (ev_var rfl))) (fun e H1 x1 => ?_) (fun e H1 x1 => ?_)
      · refine q_asg (ev_ixL (ev_var rfl) ev_c (sq_of (x1 _ _ hp)) rfl) fun H2 x2 => ?_
        refine q_asg ev_c fun H3 x3 => ?_
        have x13 := (x1.trans x2).trans x3
        refine q_cut (M := fun σ' H' => ∃ (z : Int), σ' = [some (.ref p), some (.int m), some (.int (k : Int)), some (.int z), none] ∧ Ex H H') ?_ ?_
        · refine s_if (et_test (ev_lt (ev_var rfl) (ev_lenL (ev_ixL (ev_var rfl) ev_c (sq_of (x13 _ _ hp)) rfl) (sq_of (x13 _ _ hc))))) (fun e H4 x4 => ?_) (fun e H4 x4 => ?_)
          · have e1 : (k : Int) < ((ns.map V.int).length : Nat) := of_decide_eq_true e
            rw [List.length_map] at e1
            have e2 : k < ns.length := by omega
            refine s_asg (ev_ixL (ev_ixL (ev_var rfl) ev_c (sq_of (x4 _ _ (x13 _ _ hp))) rfl) (ev_var rfl) (sq_of (x4 _ _ (x13 _ _ hc))) (atI_nat (v := .int ns[k]) (by rw [List.getElem?_map, List.getElem?_eq_getElem e2]; rfl))) fun H5 x5 => ?_
            exact ⟨_, rfl, (x13.trans x4).trans x5⟩
          · have y4 := x13.trans x4
            refine s_when (et_test (ev_gt (ev_lenL (ev_ixL (ev_var rfl) ev_c (sq_of (y4 _ _ hp)) rfl) (sq_of (y4 _ _ hc))) ev_c)) (fun e2 H5 x5 => ?_) (fun e2 H5 x5 => ?_)
            · have e3 : (0 : Int) < ((ns.map V.int).length : Nat) := of_decide_eq_true e2
              rw [List.length_map] at e3
              obtain ⟨z, hz⟩ := atI_emod (ns := ns) (by omega) ((k : Int) * 5 + 3)
              have y5 := y4.trans x5
              have c17 : CPow 10 17 := ⟨by decide, by decide, by decide⟩
              have el : ((ns.map V.int).length : Int) = (ns.length : Int) := by rw [List.length_map]
              refine s_asg (ev_mod (ev_int1 (ev_ixL (ev_ixL (ev_var rfl) ev_c (sq_of (y5 _ _ hp)) rfl) (ev_mod (ev_int1 (ev_add (ev_mulR (ev_var rfl) ev_c (by decide)) ev_c)) (ev_is (ev_lenL (ev_ixL (ev_var rfl) ev_c (sq_of (y5 _ _ hp)) rfl) (sq_of (y5 _ _ hc))) (by rw [el])) (by omega)) (sq_of (y5 _ _ hc)) hz)) (ev_add (ev_pow ev_c ev_c c17) (ev_var rfl)) ?_) fun H6 x6 => ?_
              · show (0 : Int) < 10 ^ (17 : Int).toNat + (k : Int)
                have z17 : (0 : Int) < 10 ^ (17 : Int).toNat := by decide +kernel
                omega
              · exact ⟨_, rfl, y5.trans x6⟩
            · exact ⟨_, rfl, y4.trans x5⟩
        · rintro σ' H4 ⟨z, rfl, x4⟩
          refine q_setL (j := 1) (x4 _ _ hp) (ev_add (ev_var rfl) ev_c) (ev_var rfl) ev_c (by show 1 < 3; decide) fun H5 x5 => ?_
          have y5 : Ex H H5 := x4.trans x5
          refine ⟨_, rfl, _, rfl, z, k, rfl, by omega, fun H6 rr x6 hrr => ?_⟩
          have hp6 : H6 p = some (.lst [.ref c, .int ((k : Int) + 1), .int r]) := x6 _ _ upd_same
          refine ⟨_, rfl, p, _, 2, 2, rfl, rfl, hp6, rfl, ?_⟩
          refine ⟨_, _, _, k + 1, rr, rfl, ?_, ?_, ?_, by omega, hrr⟩
          · refine ExP.upd (fun a o ha h => x6 _ _ ?_) _
            rw [upd_ne ha]
            exact y5 _ _ h
          · rw [upd_same]
            rfl
          · rw [upd_ne hcp]
            refine x6 _ _ ?_
            rw [upd_ne hcp]
            exact y5 _ _ hc
      · exact ⟨_, _, _, k, r, rfl, ExP.of x1, x1 _ _ hp, x1 _ _ hc, by omega, hr0⟩
    · rintro σ' H1 ⟨x2, x3, x4, k', r', rfl, e1, hp1, hc1, hk1, hr1⟩
      refine q_asg (ev_mod (ev_int1 (ev_ixL (ev_var rfl) ev_c (sq_of hp1) rfl)) (ev_var rfl) m0) fun H2 y2 => ?_
      refine q_setL (j := 2) (y2 _ _ hp1) (ev_fdiv (ev_ixL (ev_var rfl) ev_c (sq_of (y2 _ _ hp1)) rfl) (ev_var rfl) ⟨by omega, by omega⟩) (ev_var rfl) ev_c (by show 2 < 3; decide) fun H3 y3 => ?_
      refine s_ret (ev_var rfl) fun H4 y4 => ?_
      refine q _ _ (Int.emod_nonneg _ (by omega)) (Int.emod_lt_of_pos _ m0) ?_ ?_
      · intro a o ha h
        refine y4 _ _ ?_
        rw [upd_ne ha]
        exact y3 _ _ (y2 _ _ (e1 _ _ ha h))
      · refine ⟨ns, k', _, hcp, y4 _ _ upd_same, y4 _ _ ?_, hk1, ?_⟩
        · rw [upd_ne hcp]
          exact y3 _ _ (y2 _ _ hc1)
        · rw [Int.fdiv_eq_ediv_of_nonneg _ (by omega)]
          exact Int.ediv_nonneg hr1 (by omega)
theorem cut_lo (ns : List Int) (a b : Nat) : cutV (ns.map V.int) (some (a : Int)) (some (b : Int)) = ((ns.drop (min a ns.length)).take (min b ns.length - min a ns.length)).map V.int := by
  unfold cutV
  rw [List.length_map, HT.sIx_nat, HT.sIx_nat, List.map_take, List.map_drop]
theorem cut_hi (ns : List Int) (b : Nat) : cutV (ns.map V.int) none (some (b : Int)) = (ns.take (min b ns.length)).map V.int := by
  unfold cutV
  rw [List.length_map, HT.sIx_none, HT.sIx_nat, List.map_take, Nat.sub_zero, List.drop_zero]
theorem map_int_at {ns : List Int} {i : Nat} {y : V} (h : (ns.map V.int)[i]? = some y) : ∃ u, y = V.int u := by
  rw [List.getElem?_map] at h
  cases e : ns[i]? with
  | none =>
    rw [e] at h
    cases h
  | some u =>
    rw [e] at h
    exact ⟨u, (Option.some.inj h).symm⟩
theorem ok_open {f : Addr} {fd : FuncData} (F : Fun K "_law_open" "_law_open" s_law_open f fd) (B : Bt mg) : FnOk P w K mg base CX0 1 f fd p_law_open (spOpen K) := by
  refine F.ok sc_law_open (fun vs H Q E h => ?_) (fun cdv A outer s H vs Q E hr h => ?_)
  · obtain ⟨a, ns, rfl, _⟩ := h
    rfl
  · obtain ⟨a, ns, rfl, hS, hlen, q⟩ := h
    refine ⟨_, (pss_cons (ps_set (i := 1) sc_law_open.nd rfl (.inl rfl) (pe_callTy (r := rListS K) call_list_of (by rfl) B.b_list (by decide +kernel) (pa_cons (pe_slice (r := rSlL K) sl_list (pv 0) po_none (po_some pe_int)) pa_nil)))
    (pss_cons (ps_for PassesOwn.never rfl (pi_enum (by rfl) B.b_enumerate (pa_cons (pe_slice (r := rSlL K) sl_list (pv 0) (po_some pe_int) (po_some pe_int)) pa_nil)) (pg_tup rfl (pgs_cons (pg_name (i := 2) sc_law_open.nd rfl (.inl rfl)) (pgs_cons (pg_name (i := 3) sc_law_open.nd rfl (.inl rfl)) pgs_nil))) (pss_one (ps_asg (pe_op op_add (pe_ix (r := rIxL K) ix_list (pv 1) (pe_op op_mod (pe_callTy call_int1 (by rfl) B.b_int (by decide +kernel) (pa_cons (pv 2) pa_nil)) pe_int) (fun _ _ => rfl)) (pv 3)) (pg_sub (pv 1) (pe_op op_mod (pe_callTy call_int1 (by rfl) B.b_int (by decide +kernel) (pa_cons (pv 2) pa_nil)) pe_int) set_list))))
    (pss_one (ps_ret (pe_lst (pa_cons (pv 1) (pa_cons pe_int (pa_cons pe_int pa_nil)))))))), ?_⟩
    refine el_sl (ev_var rfl) eo_none (eo_some ev_c) hS H (Ex.refl _) _ fun p0 H1 hp1 x1 h1 => ?_
    refine ⟨p0, _, rfl, .inl (sq_of h1), fun l hl => ?_⟩
    have hl0 : H l = none := fresh_back x1 hl
    rw [show (12 : Int) = ((12 : Nat) : Int) by rfl, cut_hi]
    refine el_sl (ev_var rfl) (eo_some ev_c) (eo_some ev_c) hS _ (x1.trans (Ex.new hl)) _ fun p2 H2 hp2 x2 h2 => ?_
    rw [show (63 : Int) = ((63 : Nat) : Int) by rfl, cut_lo] at h2
    refine ⟨p2, _, rfl, sq_of h2, ?_⟩
    have hl2 : H2 l = some (.lst ((ns.take (min 12 ns.length)).map V.int)) := x2 _ _ upd_same
    have n2l : p2 ≠ l := fun z => by
      rw [z, upd_same] at hp2
      cases hp2
    refine for_it walk_enum (fun i σ' H' => ∃ (x2 x3 : Option V) (ys : List Int), σ' = [some (.ref a), some (.ref l), x2, x3] ∧ Ex H H' ∧ H' l = some (.lst (ys.map V.int)) ∧ ys.length = min 12 ns.length ∧ H' p2 = some (.lst (((ns.drop (min 12 ns.length)).take (min 63 ns.length - min 12 ns.length)).map V.int)))
      ⟨none, none, _, rfl, (x1.trans (Ex.new hl)).trans x2, hl2, by rw [List.length_take]; omega, h2⟩ (fun i σ' H' _ ⟨_, _, _, _, _, _, _, h⟩ => sq_of h) ?_ ?_
    · rintro i x σ' H' H3 hi ⟨y2, y3, ys, rfl, e1, e2, e3, e4⟩ ⟨T, u1, u2, rfl, hT, rfl, g1, g2⟩
      cases g1
      obtain ⟨z, rfl⟩ := map_int_at g2
      have big : 12 < ns.length := by
        rw [List.length_map, List.length_take, List.length_drop] at hi
        omega
      have e12 : ys.length = 12 := by omega
      have x3 : Ex H' (upd H' T (.tup [.int (i : Nat), .int z])) := Ex.new hT
      refine ⟨T, [.int (i : Nat), .int z], rfl, .inl (.inl upd_same), rfl, _, _, rfl, _, _, rfl, rfl, ?_⟩
      obtain ⟨v, hv⟩ := atI_emod (ns := ys) (by omega) ((i : Nat) : Int)
      rw [e12] at hv
      have hj : (((i : Nat) : Int) % 12).toNat < 12 := by
        have := Int.emod_lt_of_pos ((i : Nat) : Int) (show (0 : Int) < 12 by decide)
        omega
      have hjj : ((((((i : Nat) : Int) % 12).toNat : Nat)) : Int) = ((i : Nat) : Int) % 12 := by
        have := Int.emod_nonneg ((i : Nat) : Int) (show (12 : Int) ≠ 0 by decide)
        omega
      refine s_setL (j := (((i : Nat) : Int) % 12).toNat) (x3 _ _ e2) (ev_add (ev_ixL (ev_var rfl) (ev_mod (ev_int1 (ev_var rfl)) ev_c (by decide)) (sq_of (x3 _ _ e2)) hv) (ev_var rfl)) (ev_var rfl) (ev_is (ev_mod (ev_int1 (ev_var rfl)) ev_c (by decide)) (congrArg V.int (show ((i : Nat) : Int) % 12 = _ from hjj.symm))) (by rw [List.length_map, e12]; exact hj) fun H4 x4 => ?_
      refine ⟨_, _, ys.set (((i : Nat) : Int) % 12).toNat (v + z), rfl, Ex.mut ((e1.trans x3).trans x4) hl0, ?_, by rw [List.length_set]; exact e3, ?_⟩
      · rw [upd_same, List.map_set]
      · rw [upd_ne n2l]
        exact x4 _ _ (x3 _ _ e4)
    · rintro σ' H' ⟨y2, y3, ys, rfl, e1, e2, e3, e4⟩
      refine s_retL (xs := [.ref l, .int 0, .int 0]) (el_lst (ea_cons (ev_var rfl) (ea_cons ev_c (ea_cons ev_c ea_nil))) (by show 3 ≤ 100000; decide)) fun p H5 hp5 x5 h5 => ?_
      have nlp : l ≠ p := ne_of_none e2 hp5
      exact q p l H5 (fresh_back e1 hp5) hl0 (e1.trans x5) ⟨ys, 0, 0, nlp, h5, x5 _ _ e2, Nat.le_refl _, Int.le_refl _⟩
end
end Kc

set_option Elab.async false
set_option linter.all false
set_option maxRecDepth 100000
set_option maxHeartbeats 4000000
namespace Kc
open PySem PySem.Spec PyProof.Rows L2 Evl
abbrev s_is_tuple : Stmt := top 24
abbrev n_is_tuple : List Str := ["thing", "least", "most"]
abbrev p_is_tuple : List Str := ["thing", "least", "most"]
theorem sc_is_tuple : FnScope n_is_tuple p_is_tuple (defScope s_is_tuple) := ⟨rfl, rfl, rfl, by decide +kernel, rfl, by decide +kernel, by decide +kernel⟩
abbrev s_is_library : Stmt := top 22
abbrev n_is_library : List Str := ["thing", "modulus", "kinds", "functions", "exported", "function", "f", "many"]
abbrev p_is_library : List Str := ["thing"]
theorem sc_is_library : FnScope n_is_library p_is_library (defScope s_is_library) := ⟨rfl, rfl, rfl, by decide +kernel, rfl, by decide +kernel, by decide +kernel⟩
abbrev s_law_one_each : Stmt := top 45
abbrev n_law_one_each : List Str := ["text", "some"]
abbrev p_law_one_each : List Str := ["text"]
theorem sc_law_one_each : FnScope n_law_one_each p_law_one_each (defScope s_law_one_each) := ⟨rfl, rfl, rfl, by decide +kernel, rfl, by decide +kernel, by decide +kernel⟩
abbrev s_law_kinds : Stmt := top 46
abbrev n_law_kinds : List Str := ["error", "some"]
abbrev p_law_kinds : List Str := ["error"]
theorem sc_law_kinds : FnScope n_law_kinds p_law_kinds (defScope s_law_kinds) := ⟨rfl, rfl, rfl, by decide +kernel, rfl, by decide +kernel, by decide +kernel⟩
abbrev s_law : Stmt := top 47
abbrev n_law : List Str := ["script", "pen", "rows", "errors", "k", "error", "again", "index"]
abbrev p_law : List Str := ["script"]
theorem sc_law : FnScope n_law p_law (defScope s_law) := ⟨rfl, rfl, rfl, by decide +kernel, rfl, by decide +kernel, by decide +kernel⟩
theorem pe_none {X : Cx} {e : Expr} : PE X e (fun _ _ _ => False) := ⟨fun _ _ _ _ _ _ h => h.elim⟩
/-! ### the errors as values -/
def exN : List Str := ["NoLibrary", "NoSlots", "NoHistory", "NoChoice", "NoLimit", "NoMenu", "NoPrices", "NoFunction", "NoNumber", "NoWorld", "NoWay"]
def exA : List Str := "KeptError" :: exN
structure Xs (K : PySem.W.Frag) (mg : Str → Option Value) : Prop where
  g : ∀ x : Str, x ∈ exA → mg x = some (.ref (He.ga K x))
  k : ∀ x : Str, x ∈ exA → PySem.W.keepIn K (.ref (He.ga K x)) = true
  q : ∀ x : Str, x ∈ exA → PySem.W.excIn K (He.ga K x) [.type "ValueError", .type "Exception", .type "BaseException", .type "object"] "ValueError.__new__" = true
  e : ∀ x : Str, x ∈ exA → ExcC K (He.ga K x)
  one : ∀ x : Str, x ∈ exA → ∀ y : Str, y ∈ exA → PySem.W.kitOne K (.ref (He.ga K x)) (.ref (He.ga K y)) = some (decide (x = y) || decide (y = "KeptError"))
  ve : ∀ x : Str, x ∈ exA → PySem.W.kitOne K (.ref (He.ga K x)) (.type "ValueError") = some true
def rIsX (K : PySem.W.Frag) : List V → Hp → VK → Prop := fun xs H Q => ∃ (a D : Addr) (c : V) (cv : Value) (b : Bool), xs = [.ref a, c] ∧ H a = some (ExO (.ref D) a) ∧ ExcC K D ∧ ClsV c cv ∧ PySem.W.kitOne K (.ref D) cv = some b ∧ Q (.bl b) H
theorem call_isX {X : Cx} : CallR X (.builtin "isinstance") (rIsX X.K) := by
  intro pins s σ H xs us Q I r h
  obtain ⟨a, D, c, cv, b, rfl, ha, C, hcv, e, q⟩ := h
  obtain ⟨u1, u2, rfl, r1, r2⟩ := vals2 r
  cases r1
  have ec := hcv.eq r2
  subst ec
  obtain ⟨⟨oe, vs, hget, hz, hv, _, _, _⟩, _, _⟩ := I.hok a _ ha
  have J : PySem.W.InstAt s.heap a oe D none := by
    obtain ⟨oc, od, oda, osl⟩ := oe
    obtain ⟨h1, h2⟩ := hz
    dsimp only at h1 h2 hv
    subst h1 h2 hv
    exact ⟨hget, rfl, rfl, trivial⟩
  exact PySem.W.kia_one (PySem.W.handS_kitx_exc C.hg C.hk C.hs C.hd C.ha C.hn C.ht C.hm) I.kIn J e (fun z => nomatch z) fun tk => ⟨.bl b, H, I.tok tk, rfl, q⟩
/-! ### promises -/
def spKinds (K : PySem.W.Frag) : Sp := fun vs H Q _ => ∃ (a : Addr) (x : Str), vs = [.ref a] ∧ x ∈ exA ∧ H a = some (ExO (.ref (He.ga K x)) a) ∧ RetL (exN.map fun y => V.bl (decide (x = y))) H Q
inductive Exs (K : PySem.W.Frag) (H : Hp) : List Addr → List Str → Prop where
  | nil : Exs K H [] []
  | cons {e : Addr} {x : Str} {es : List Addr} {xs : List Str} (h : H e = some (ExO (.ref (He.ga K x)) e)) (t : Exs K H es xs) : Exs K H (e :: es) (x :: xs)
theorem Exs.keep {K : PySem.W.Frag} {H H' : Hp} : ∀ {es : List Addr} {xs : List Str}, Exs K H es xs → (∀ e ∈ es, ∀ o, H e = some o → H' e = some o) → Exs K H' es xs
  | _, _, .nil, _ => .nil
  | _, _, .cons h t, k => .cons (k _ (by simp) _ h) (t.keep fun e he => k e (by simp [he]))
theorem Exs.append {K : PySem.W.Frag} {H : Hp} : ∀ {es : List Addr} {xs : List Str} {fs : List Addr} {ys : List Str}, Exs K H es xs → Exs K H fs ys → Exs K H (es ++ fs) (xs ++ ys)
  | _, _, _, _, .nil, h => h
  | _, _, _, _, .cons h t, k => .cons h (t.append k)
theorem Exs.length {K : PySem.W.Frag} {H : Hp} : ∀ {es : List Addr} {xs : List Str}, Exs K H es xs → es.length = xs.length
  | _, _, .nil => rfl
  | _, _, .cons _ t => by rw [List.length_cons, List.length_cons, t.length]
theorem Exs.at {K : PySem.W.Frag} {H : Hp} : ∀ {es : List Addr} {xs : List Str} {j : Nat} {v : V}, Exs K H es xs → (es.map V.ref)[j]? = some v → ∃ e x, v = .ref e ∧ xs[j]? = some x ∧ H e = some (ExO (.ref (He.ga K x)) e)
  | _, _, _, _, .nil, h => nomatch h
  | _, _, 0, _, .cons h _, e => ⟨_, _, (Option.some.inj e).symm, rfl, h⟩
  | _, _, j + 1, _, .cons _ t, e => t.at (j := j) e
def Row (K : PySem.W.Frag) (H : Hp) (es : List Addr) : Prop := Exs K H es exN
def EvEs (K : PySem.W.Frag) (ta : TA) (σ : L2.St) (H : Hp) (xs : List Str) : Prop := ∀ H1, Ex H H1 → ∀ Q : List V → Hp → Prop, (∀ es H2, (∀ e ∈ es, H1 e = none) → Ex H1 H2 → Exs K H2 es xs → Q (es.map V.ref) H2) → ta σ H1 Q
theorem ee_nil {K : PySem.W.Frag} {σ : L2.St} {H : Hp} : EvEs K tNil σ H [] := fun H1 _ _ q => q [] H1 (by simp) (Ex.refl _) .nil
theorem ee_cons {K : PySem.W.Frag} {σ : L2.St} {H : Hp} {te : TE} {tr : TA} {x : Str} {xs : List Str} {v : V} (he : Ev te σ H v) (hr : EvEs K tr σ H xs) :
    EvEs K (tCons (fun σ H Q => te σ H fun _ H1 => ∀ a, H1 a = none → Q (.ref a) (upd H1 a (ExO (.ref (He.ga K x)) a))) tr) σ H (x :: xs) := fun H1 e1 Q q =>
  he H1 e1 _ fun H2 e2 a ha => hr _ ((e1.trans e2).trans (Ex.new ha)) _ fun es H3 n3 e3 h3 =>
    q (a :: es) H3 (fun e m => by
      rcases List.mem_cons.mp m with rfl | m
      · exact fresh_back e2 ha
      · exact fresh_back (e2.trans (Ex.new ha)) (n3 e m)) ((e2.trans (Ex.new ha)).trans e3) (.cons (e3 _ _ upd_same) h3)
def spOne (K : PySem.W.Frag) : Sp := fun vs H Q _ => ∃ (z : Str), vs = [.str z] ∧ ∀ (r : Addr) (es : List Addr) (H' : Hp), H r = none → (∀ e ∈ es, H e = none) → Ex H H' → H' r = some (.lst (es.map V.ref)) → Row K H' es → Q (.ref r) H'
def spIsTup : Sp := fun vs H Q _ => ∃ (x : V) (m n : Int), vs = [x, .int m, .int n] ∧ (x = .non ∨ (∃ z, x = .str z) ∨ (∃ a xs, x = .ref a ∧ H a = some (.lst xs)) ∨ (∃ a, x = .ref a ∧ H a = some (.tup []) ∧ 0 < m)) ∧ RetV (.bl false) H Q
def spLib : Sp := fun vs H Q _ => ∃ (x : V), vs = [x] ∧ (x = .non ∨ (∃ z, x = .str z) ∨ (∃ a xs, x = .ref a ∧ H a = some (.lst xs)) ∨ (∃ a, x = .ref a ∧ H a = some (.tup []))) ∧ RetV (.bl false) H Q
section
variable {P : Program} {w : World} {K : PySem.W.Frag} {mg : Str → Option Value} {base : Heap}
theorem rc_isi {H : Hp} {x c : V} {t u : Value} {b : Bool} (hc : ClsV c u) (ht : ∀ H1, Ex H H1 → TyX K H1 x t) (e : PySem.W.kitOne K t u = some b) : RC (rIsi K) [x, c] H (.bl b) := fun H1 e1 _ q => ⟨x, c, t, u, b, rfl, hc, ht H1 e1, e, q H1 (Ex.refl H1)⟩
theorem ok_isTup {f : Addr} {fd : FuncData} (F : Fun K "is_tuple" "is_tuple" s_is_tuple f fd) (B : Bt mg) : FnOk P w K mg base CX0 1 f fd p_is_tuple spIsTup := by
  refine F.ok sc_is_tuple (fun vs H Q E h => ?_) (fun cdv A outer s H vs Q E hr h => ?_)
  · obtain ⟨x, m, n, rfl, _⟩ := h
    rfl
  · obtain ⟨x, m, n, rfl, hx, q⟩ := h
    refine ⟨_, (pss_one (ps_ret (pe_and (pe_callB (r := rIsi K) call_isi (by rfl) B.b_isinstance (by decide +kernel) (pa_cons (pv 0) (pa_cons (pe_bltn (v := .ty "tuple") (by rfl) B.b_tuple (by decide +kernel) rfl) pa_nil))) (pe_one (pe_chain op_le op_le (pv 1) (pe_callB (r := rLenS K) call_len_seq (by rfl) B.b_len (by decide +kernel) (pa_cons (pv 0) pa_nil)) (pv 2)))))), ?_⟩
    have no : ∀ (t : String), kitB t "tuple" = some false → (∀ H1, Ex H H1 → TyX K H1 x (.type t)) → RC (rIsi K) [x, .ty "tuple"] H (.bl false) := fun t e ht => rc_isi (.ty "tuple") ht (kit_ty e)
    rcases hx with rfl | ⟨z, rfl⟩ | ⟨a, xs, rfl, ha⟩ | ⟨a, rfl, ha, hm⟩
    · exact s_ret (ev_andV (a := false) (b := false) (ev_cb (ea_cons (ev_var rfl) (ea_cons ev_c ea_nil)) (no "NoneType" (by decide +kernel) fun _ _ => .base .non)) (fun z => nomatch z)) q
    · exact s_ret (ev_andV (a := false) (b := false) (ev_cb (ea_cons (ev_var rfl) (ea_cons ev_c ea_nil)) (no "str" (by decide +kernel) fun _ _ => .base (.str z))) (fun z => nomatch z)) q
    · exact s_ret (ev_andV (a := false) (b := false) (ev_cb (ea_cons (ev_var rfl) (ea_cons ev_c ea_nil)) (no "list" (by decide +kernel) fun _ e1 => .base (.lst (e1 _ _ ha)))) (fun z => nomatch z)) q
    · refine s_ret (ev_andV (a := true) (b := false) (ev_cb (ea_cons (ev_var rfl) (ea_cons ev_c ea_nil)) (rc_isi (.ty "tuple") (fun _ e1 => .base (.tup (e1 _ _ ha))) (kit_ty (by decide +kernel)))) (fun _ => ?_)) q
      intro H1 e1 Q' q'
      refine ⟨_, rfl, _, rfl, a, [], rfl, .inr (SqT.of (e1 _ _ ha)), _, _, rfl, rfl, _, rfl, ?_⟩
      rw [decide_eq_false (show ¬ m ≤ (([] : List V).length : Int) by simp; omega)]
      exact q' H1 (Ex.refl H1)
theorem ok_lib {f : Addr} {fd : FuncData} (F : Fun K "is_library" "is_library" s_is_library f fd) (B : Bt mg) (C_is_tuple : Cd P w K mg base "is_tuple" p_is_tuple 1 spIsTup) : FnOk P w K mg base CX0 2 f fd p_is_library spLib := by
  refine F.ok sc_is_library (fun vs H Q E h => ?_) (fun cdv A outer s H vs Q E hr h => ?_)
  · obtain ⟨x, rfl, _⟩ := h
    rfl
  · obtain ⟨x, rfl, hx, q⟩ := h
    refine ⟨_, pss_cons (ps_if (pt_not (PW.pt (pw_and (pt_val (pe_cd C_is_tuple (hr.mono (by decide)) (by rfl) (pa_cons (pv 0) (pa_cons pe_int (pa_cons pe_int pa_nil))))) (pw_and1 (pt_val pe_none))))) (pss_one (ps_ret pe_bl)) pss_nil) pss_never, ?_⟩
    refine ⟨_, rfl, x, 4, 4, rfl, ?_, fun H1 e1 => ⟨false, rfl, ?_⟩⟩
    · rcases hx with h | h | h | ⟨a, h1, h2⟩
      · exact .inl h
      · exact .inr (.inl h)
      · exact .inr (.inr (.inl h))
      · exact .inr (.inr (.inr ⟨a, h1, h2, by decide⟩))
    · exact q H1 e1
theorem ev_isX {σ : L2.St} {H : Hp} {ta tc : TE} {a : Addr} {x : Str} {c : V} {cv : Value} {b : Bool} (Z : Xs K mg) (ha : Ev ta σ H (.ref a)) (hx : x ∈ exA) (h : H a = some (ExO (.ref (He.ga K x)) a)) (hc : Ev tc σ H c) (hcv : ClsV c cv) (e : PySem.W.kitOne K (.ref (He.ga K x)) cv = some b) :
    Ev (tCB (rIsX K) (tCons ta (tCons tc tNil))) σ H (.bl b) :=
  ev_cb (ea_cons ha (ea_cons hc ea_nil)) fun H1 e1 _ q => ⟨a, He.ga K x, c, cv, b, rfl, e1 _ _ h, Z.e x hx, hcv, e, q H1 (Ex.refl H1)⟩
theorem ev_isY {σ : L2.St} {H : Hp} {ta : TE} {a : Addr} {x y : Str} (Z : Xs K mg) (ha : Ev ta σ H (.ref a)) (hx : x ∈ exA) (h : H a = some (ExO (.ref (He.ga K x)) a)) (hy : y ∈ exA) (hn : y ≠ "KeptError") :
    Ev (tCB (rIsX K) (tCons ta (tCons (tC (.ref (He.ga K y))) tNil))) σ H (.bl (decide (x = y))) :=
  ev_isX Z ha hx h ev_c (.own _) (by rw [Z.one x hx y hy, decide_eq_false hn, Bool.or_false])
theorem ok_kinds {f : Addr} {fd : FuncData} (F : Fun K "_law_kinds" "_law_kinds" s_law_kinds f fd) (B : Bt mg) (Z : Xs K mg) : FnOk P w K mg base CX0 1 f fd p_law_kinds (spKinds K) := by
  refine F.ok sc_law_kinds (fun vs H Q E h => ?_) (fun cdv A outer s H vs Q E hr h => ?_)
  · obtain ⟨a, x, rfl, _⟩ := h
    rfl
  · obtain ⟨a, x, rfl, hx, ha, q⟩ := h
    refine ⟨_, (pss_cons (ps_set (i := 1) sc_law_kinds.nd rfl (.inl rfl) (pe_lst (pa_cons (pe_callB (r := rIsX K) call_isX (by rfl) B.b_isinstance (by decide +kernel) (pa_cons (pv 0) (pa_cons (pe_glob (v := .ref (He.ga _ "NoLibrary")) rfl (Z.g "NoLibrary" (by decide)) rfl) pa_nil))) (pa_cons (pe_callB (r := rIsX K) call_isX (by rfl) B.b_isinstance (by decide +kernel) (pa_cons (pv 0) (pa_cons (pe_glob (v := .ref (He.ga _ "NoSlots")) rfl (Z.g "NoSlots" (by decide)) rfl) pa_nil))) (pa_cons (pe_callB (r := rIsX K) call_isX (by rfl) B.b_isinstance (by decide +kernel) (pa_cons (pv 0) (pa_cons (pe_glob (v := .ref (He.ga _ "NoHistory")) rfl (Z.g "NoHistory" (by decide)) rfl) pa_nil))) pa_nil)))))
    (pss_cons (ps_set (i := 1) sc_law_kinds.nd rfl (.inl rfl) (pe_op op_cat (pv 1) (pe_lst (pa_cons (pe_callB (r := rIsX K) call_isX (by rfl) B.b_isinstance (by decide +kernel) (pa_cons (pv 0) (pa_cons (pe_glob (v := .ref (He.ga _ "NoChoice")) rfl (Z.g "NoChoice" (by decide)) rfl) pa_nil))) (pa_cons (pe_callB (r := rIsX K) call_isX (by rfl) B.b_isinstance (by decide +kernel) (pa_cons (pv 0) (pa_cons (pe_glob (v := .ref (He.ga _ "NoLimit")) rfl (Z.g "NoLimit" (by decide)) rfl) pa_nil))) (pa_cons (pe_callB (r := rIsX K) call_isX (by rfl) B.b_isinstance (by decide +kernel) (pa_cons (pv 0) (pa_cons (pe_glob (v := .ref (He.ga _ "NoMenu")) rfl (Z.g "NoMenu" (by decide)) rfl) pa_nil))) pa_nil))))))
    (pss_cons (ps_set (i := 1) sc_law_kinds.nd rfl (.inl rfl) (pe_op op_cat (pv 1) (pe_lst (pa_cons (pe_callB (r := rIsX K) call_isX (by rfl) B.b_isinstance (by decide +kernel) (pa_cons (pv 0) (pa_cons (pe_glob (v := .ref (He.ga _ "NoPrices")) rfl (Z.g "NoPrices" (by decide)) rfl) pa_nil))) (pa_cons (pe_callB (r := rIsX K) call_isX (by rfl) B.b_isinstance (by decide +kernel) (pa_cons (pv 0) (pa_cons (pe_glob (v := .ref (He.ga _ "NoFunction")) rfl (Z.g "NoFunction" (by decide)) rfl) pa_nil))) (pa_cons (pe_callB (r := rIsX K) call_isX (by rfl) B.b_isinstance (by decide +kernel) (pa_cons (pv 0) (pa_cons (pe_glob (v := .ref (He.ga _ "NoNumber")) rfl (Z.g "NoNumber" (by decide)) rfl) pa_nil))) pa_nil))))))
    (pss_one (ps_ret (pe_op op_cat (pv 1) (pe_lst (pa_cons (pe_callB (r := rIsX K) call_isX (by rfl) B.b_isinstance (by decide +kernel) (pa_cons (pv 0) (pa_cons (pe_glob (v := .ref (He.ga _ "NoWorld")) rfl (Z.g "NoWorld" (by decide)) rfl) pa_nil))) (pa_cons (pe_callB (r := rIsX K) call_isX (by rfl) B.b_isinstance (by decide +kernel) (pa_cons (pv 0) (pa_cons (pe_glob (v := .ref (He.ga _ "NoWay")) rfl (Z.g "NoWay" (by decide)) rfl) pa_nil))) pa_nil))))))))), ?_⟩
    have v : ∀ H1, Ex H H1 → ∀ σ : L2.St, σ[0]? = some (some (.ref a)) → ∀ y : Str, y ∈ exA → y ≠ "KeptError" → Ev (tCB (rIsX K) (tCons (tVar 0) (tCons (tC (.ref (He.ga K y))) tNil))) σ H1 (.bl (decide (x = y))) := fun H1 e1 σ hσ y hy hn => ev_isY Z (ev_var hσ) hx (e1 _ _ ha) hy hn
    refine q_asgL (el_lst (ea_cons (v _ (Ex.refl _) _ rfl "NoLibrary" (by decide) (by decide)) (ea_cons (v _ (Ex.refl _) _ rfl "NoSlots" (by decide) (by decide)) (ea_cons (v _ (Ex.refl _) _ rfl "NoHistory" (by decide) (by decide)) ea_nil))) (by show 3 ≤ 100000; decide)) fun l1 H1 _ x1 h1 => ?_
    refine q_asgL (el_cat (ev_var rfl) h1 (el_lst (ea_cons (v _ x1 _ rfl "NoChoice" (by decide) (by decide)) (ea_cons (v _ x1 _ rfl "NoLimit" (by decide) (by decide)) (ea_cons (v _ x1 _ rfl "NoMenu" (by decide) (by decide)) ea_nil))) (by show 3 ≤ 100000; decide)) (by show 6 ≤ 100000; decide)) fun l2 H2 _ x2 h2 => ?_
    have y2 := x1.trans x2
    refine q_asgL (el_cat (ev_var rfl) h2 (el_lst (ea_cons (v _ y2 _ rfl "NoPrices" (by decide) (by decide)) (ea_cons (v _ y2 _ rfl "NoFunction" (by decide) (by decide)) (ea_cons (v _ y2 _ rfl "NoNumber" (by decide) (by decide)) ea_nil))) (by show 3 ≤ 100000; decide)) (by show 9 ≤ 100000; decide)) fun l3 H3 _ x3 h3 => ?_
    have y3 := y2.trans x3
    refine s_retL (el_cat (ev_var rfl) h3 (el_lst (ea_cons (v _ y3 _ rfl "NoWorld" (by decide) (by decide)) (ea_cons (v _ y3 _ rfl "NoWay" (by decide) (by decide)) ea_nil)) (by show 2 ≤ 100000; decide)) (by show 11 ≤ 100000; decide)) fun l4 H4 hl4 x4 h4 => ?_
    exact q l4 H4 (fresh_back y3 hl4) (y3.trans x4) h4
/-- a new list of what EvEs makes, behind some that stand -/
def EvLE (K : PySem.W.Frag) (te : TE) (σ : L2.St) (H : Hp) (as : List Addr) (xs : List Str) : Prop := ∀ H1, Ex H H1 → ∀ Q : VK, (∀ p es H2, H1 p = none → (∀ e ∈ es, H1 e = none) → Ex H1 H2 → H2 p = some (.lst ((as ++ es).map V.ref)) → Exs K H2 es xs → Q (.ref p) H2) → te σ H1 Q
theorem ele_lst {K : PySem.W.Frag} {σ : L2.St} {H : Hp} {ta : TA} {xs : List Str} (h : EvEs K ta σ H xs) (hz : xs.length ≤ 100000) : EvLE K (tLst ta) σ H [] xs := fun H1 e1 Q q =>
  h H1 e1 _ fun es H2 n2 e2 h2 => ⟨by rw [List.length_map, h2.length]; exact sz_of hz, fun p hp => q p es _ (fresh_back e2 hp) n2 (e2.trans (Ex.new hp)) upd_same (h2.keep fun e _ o ho => Ex.new hp _ _ ho)⟩
theorem ele_cat {K : PySem.W.Frag} {σ : L2.St} {H : Hp} {ta tb : TE} {p : Addr} {as : List Addr} {xs : List Str} (ha : Ev ta σ H (.ref p)) (hp : H p = some (.lst (as.map V.ref))) (h : EvLE K tb σ H [] xs) (hz : as.length + xs.length ≤ 100000) : EvLE K (tOp rCat ta tb) σ H as xs := fun H1 e Q k =>
  ha H1 e _ fun H2 e2 => h H2 (e.trans e2) _ fun q es H3 _ n3 e3 hq h3 => ⟨p, q, as.map V.ref, es.map V.ref, rfl, rfl, e3 _ _ (e2 _ _ (e _ _ hp)), hq, by rw [List.length_map, List.length_map, h3.length]; exact sz_of hz,
    fun l hl => k l es _ (fresh_back (e2.trans e3) hl) (fun e he => fresh_back e2 (n3 e he)) ((e2.trans e3).trans (Ex.new hl)) (by rw [upd_same, List.map_append]) (h3.keep fun e _ o ho => Ex.new hl _ _ ho)⟩
theorem q_asgLE {K : PySem.W.Frag} {σ : L2.St} {H : Hp} {te : TE} {tz : TS} {D : Ends} {i : Nat} {as : List Addr} {xs : List Str} (h : EvLE K te σ H as xs)
    (k : ∀ p es H1, H p = none → (∀ e ∈ es, H e = none) → Ex H H1 → H1 p = some (.lst ((as ++ es).map V.ref)) → Exs K H1 es xs → tz D (σ.set i (some (.ref p))) H1) : tSeq (tAsg te (gName i)) tz D σ H := h H (Ex.refl H) _ fun p es H1 hp ne e h1 h2 => k p es H1 hp ne e h1 h2
theorem s_retLE {K : PySem.W.Frag} {σ : L2.St} {H : Hp} {te : TE} {D : Ends} {as : List Addr} {xs : List Str} (h : EvLE K te σ H as xs)
    (k : ∀ p es H1, H p = none → (∀ e ∈ es, H e = none) → Ex H H1 → H1 p = some (.lst ((as ++ es).map V.ref)) → Exs K H1 es xs → D.rt (.ref p) H1) : tRet te D σ H := h H (Ex.refl H) _ fun p es H1 hp ne e h1 h2 => k p es H1 hp ne e h1 h2
theorem ok_one {f : Addr} {fd : FuncData} (F : Fun K "_law_one_each" "_law_one_each" s_law_one_each f fd) (B : Bt mg) (Z : Xs K mg) : FnOk P w K mg base CX0 1 f fd p_law_one_each (spOne K) := by
  refine F.ok sc_law_one_each (fun vs H Q E h => ?_) (fun cdv A outer s H vs Q E hr h => ?_)
  · obtain ⟨z, rfl, _⟩ := h
    rfl
  · obtain ⟨z, rfl, q⟩ := h
    refine ⟨_, (pss_cons (ps_set (i := 1) sc_law_one_each.nd rfl (.inl rfl) (pe_lst (pa_cons (pe_exc1 (C := He.ga _ "NoLibrary") PySem.F.excBase_ValueError (Z.q "NoLibrary" (by decide)) (Z.g "NoLibrary" (by decide)) (Z.k "NoLibrary" (by decide)) (by rfl) (pv 0)) (pa_cons (pe_exc1 (C := He.ga _ "NoSlots") PySem.F.excBase_ValueError (Z.q "NoSlots" (by decide)) (Z.g "NoSlots" (by decide)) (Z.k "NoSlots" (by decide)) (by rfl) (pv 0)) (pa_cons (pe_exc1 (C := He.ga _ "NoHistory") PySem.F.excBase_ValueError (Z.q "NoHistory" (by decide)) (Z.g "NoHistory" (by decide)) (Z.k "NoHistory" (by decide)) (by rfl) (pv 0)) (pa_cons (pe_exc1 (C := He.ga _ "NoChoice") PySem.F.excBase_ValueError (Z.q "NoChoice" (by decide)) (Z.g "NoChoice" (by decide)) (Z.k "NoChoice" (by decide)) (by rfl) (pv 0)) (pa_cons (pe_exc1 (C := He.ga _ "NoLimit") PySem.F.excBase_ValueError (Z.q "NoLimit" (by decide)) (Z.g "NoLimit" (by decide)) (Z.k "NoLimit" (by decide)) (by rfl) (pv 0)) (pa_cons (pe_exc1 (C := He.ga _ "NoMenu") PySem.F.excBase_ValueError (Z.q "NoMenu" (by decide)) (Z.g "NoMenu" (by decide)) (Z.k "NoMenu" (by decide)) (by rfl) (pv 0)) pa_nil))))))))
    (pss_one (ps_ret (pe_op op_cat (pv 1) (pe_lst (pa_cons (pe_exc1 (C := He.ga _ "NoPrices") PySem.F.excBase_ValueError (Z.q "NoPrices" (by decide)) (Z.g "NoPrices" (by decide)) (Z.k "NoPrices" (by decide)) (by rfl) (pv 0)) (pa_cons (pe_exc1 (C := He.ga _ "NoFunction") PySem.F.excBase_ValueError (Z.q "NoFunction" (by decide)) (Z.g "NoFunction" (by decide)) (Z.k "NoFunction" (by decide)) (by rfl) (pv 0)) (pa_cons (pe_exc1 (C := He.ga _ "NoNumber") PySem.F.excBase_ValueError (Z.q "NoNumber" (by decide)) (Z.g "NoNumber" (by decide)) (Z.k "NoNumber" (by decide)) (by rfl) (pv 0)) (pa_cons (pe_exc1 (C := He.ga _ "NoWorld") PySem.F.excBase_ValueError (Z.q "NoWorld" (by decide)) (Z.g "NoWorld" (by decide)) (Z.k "NoWorld" (by decide)) (by rfl) (pv 0)) (pa_cons (pe_exc1 (C := He.ga _ "NoWay") PySem.F.excBase_ValueError (Z.q "NoWay" (by decide)) (Z.g "NoWay" (by decide)) (Z.k "NoWay" (by decide)) (by rfl) (pv 0)) pa_nil)))))))))), ?_⟩
    have ee : ∀ (σ : L2.St) (H' : Hp), σ[0]? = some (some (.str z)) → Ev (tVar 0) σ H' (.str z) := fun σ H' h => ev_var h
    refine q_asgLE (K := K) (xs := ["NoLibrary", "NoSlots", "NoHistory", "NoChoice", "NoLimit", "NoMenu"]) (ele_lst (ee_cons (ee _ _ (by rfl)) (ee_cons (ee _ _ (by rfl)) (ee_cons (ee _ _ (by rfl)) (ee_cons (ee _ _ (by rfl)) (ee_cons (ee _ _ (by rfl)) (ee_cons (ee _ _ (by rfl)) ee_nil)))))) (by decide)) fun l es H1 hl n1 x1 hl1 h1 => ?_
    refine s_retLE (K := K) (xs := ["NoPrices", "NoFunction", "NoNumber", "NoWorld", "NoWay"]) (ele_cat (ev_var (by rfl)) hl1 (ele_lst (ee_cons (ee _ _ (by rfl)) (ee_cons (ee _ _ (by rfl)) (ee_cons (ee _ _ (by rfl)) (ee_cons (ee _ _ (by rfl)) (ee_cons (ee _ _ (by rfl)) ee_nil))))) (by decide)) (by rw [List.nil_append, h1.length]; decide)) fun r fs H2 hr n2 x2 hr2 h2 => ?_
    refine q r (es ++ fs) H2 (fresh_back x1 hr) (fun e me => ?_) (x1.trans x2) hr2 ?_
    · rcases List.mem_append.mp me with h | h
      · exact n1 e h
      · exact fresh_back x1 (n2 e h)
    · exact (h1.keep fun e _ o he => x2 _ _ he).append h2
theorem dpAll_bl {H : Hp} : ∀ bs : List Bool, DpAll K H (bs.map V.bl) (bs.map PyData.bool)
  | [] => .nil
  | b :: bs => .cons (.bl b) (dpAll_bl bs)
theorem lay_bl : ∀ bs : List Bool, PyData.canLayAll0 (bs.map PyData.bool) = true
  | [] => by simp [PyData.canLayAll0]
  | b :: bs => by
    show PyData.canLayAll0 (.bool b :: bs.map PyData.bool) = true
    simp only [PyData.canLayAll0, PyData.canLay0, lay_bl bs]
    rfl
theorem dep_bl : ∀ bs : List Bool, PyData.depthAll (bs.map PyData.bool) = 0
  | [] => by simp [PyData.depthAll]
  | b :: bs => by
    show PyData.depthAll (.bool b :: bs.map PyData.bool) = 0
    simp only [PyData.depthAll, PyData.depth, dep_bl bs]
    rfl
theorem shaped_bl (bs : List Bool) : SeqAt.shaped (.list (bs.map PyData.bool)) = true := by
  show (PyData.canLay0 (.list (bs.map PyData.bool)) && decide (PyData.depth (.list (bs.map PyData.bool)) ≤ 64)) = true
  rw [Bool.and_eq_true]
  refine ⟨by simp only [PyData.canLay0]; exact lay_bl bs, decide_eq_true ?_⟩
  simp only [PyData.depth, dep_bl bs]
  omega
theorem ne_bl {H : Hp} {p q : Addr} {bs : List Bool} (hp : H p = some (.lst (bs.map V.bl))) (hq : H q = some (.lst (bs.map V.bl))) : RV (rNeD K) (.ref p) (.ref q) H (.bl false) := fun H1 e1 Q k => by
  refine ⟨_, _, .lst (sq_of (e1 _ _ hp)) (dpAll_bl bs), .lst (sq_of (e1 _ _ hq)) (dpAll_bl bs), shaped_bl bs, shaped_bl bs, ?_⟩
  rw [SeqAt.eqv_refl _ (SeqAt.canLay_of_shaped (shaped_bl bs))]
  exact k H1 (Ex.refl H1)
def kb (x : Str) : List Bool := exN.map fun y => decide (x = y)
theorem kb_eq : ∀ (j : Nat) (x : Str), exN[j]? = some x → kb x = (List.range 11).map fun i => decide (i = j) := by
  intro j x h
  have hj : j < 11 := (List.getElem?_eq_some_iff.mp h).1
  have z : ∀ j : Fin 11, ∀ x ∈ exN[j.1]?, kb x = (List.range 11).map fun i => decide (i = j.1) := by decide +kernel
  exact z ⟨j, hj⟩ x h
theorem mem_exA {j : Nat} {x : Str} (h : exN[j]? = some x) : x ∈ exA := List.mem_cons_of_mem _ (List.mem_of_getElem? h)
theorem given11 (j : Nat) : given (11 : Int).toNat (fun _ => true) (fun i => V.bl (decide ((i : Int) = (j : Int)))) = ((List.range 11).map fun i => decide (i = j)).map V.bl := by
  show ((List.range 11).filter fun _ => true).map _ = _
  rw [List.filter_eq_self.mpr (fun _ _ => rfl), List.map_map]
  refine List.map_congr_left fun i _ => ?_
  show V.bl _ = V.bl _
  congr 1
  exact decide_eq_decide.mpr ⟨fun h => by omega, fun h => by omega⟩
/-- the rows that the law has made, behind a pen at p, in a list at Dl -/
def Made (K : PySem.W.Frag) (p c Dl : Addr) (i : Nat) (H : Hp) : Prop := Pen p c i H ∧ p ≠ Dl ∧ c ≠ Dl ∧ ∃ rs : List Addr, rs.length = i ∧ H Dl = some (.lst (rs.map V.ref)) ∧
  ∀ r ∈ rs, r ≠ p ∧ r ≠ Dl ∧ ∃ es : List Addr, (∀ e ∈ es, e ≠ p ∧ e ≠ Dl) ∧ H r = some (.lst (es.map V.ref)) ∧ Exs K H es exN
theorem tYes_go {σ : L2.St} {H : Hp} {A B : Hp → Prop} (h : A H) : tYes σ H fun b H3 => if b = true then A H3 else B H3 := by
  show (if true = true then A H else B H)
  rw [if_pos rfl]
  exact h
def spLaw (K : PySem.W.Frag) : Sp := fun vs H Q _ => ∃ (a : Addr) (ns : List Int), vs = [.ref a] ∧ SqL K H a (ns.map V.int) ∧ ns.length ≤ 63 ∧ ∀ H', Q (.bl true) H'
theorem ok_law {f : Addr} {fd : FuncData} (F : Fun K "law" "law" s_law f fd) (B : Bt mg) (Z : Xs K mg) (C_law_open : Cd P w K mg base "_law_open" p_law_open 1 (spOpen K)) (C_law_take : Cd P w K mg base "_law_take" p_law_take 2 spTake)
    (C_law_one_each : Cd P w K mg base "_law_one_each" p_law_one_each 1 (spOne K)) (C_law_kinds : Cd P w K mg base "_law_kinds" p_law_kinds 1 (spKinds K)) (C_is_library : Cd P w K mg base "is_library" p_is_library 2 spLib) : FnOk P w K mg base CX0 3 f fd p_law (spLaw K) := by
  refine F.ok sc_law (fun vs H Q E h => ?_) (fun cdv A outer s H vs Q E hr h => ?_)
  · obtain ⟨a, ns, rfl, _⟩ := h
    rfl
  · obtain ⟨a, ns, rfl, hS, hlen, q⟩ := h
    refine ⟨_, (pss_cons (ps_set (i := 1) sc_law.nd rfl (.inr rfl) (pe_cd C_law_open (hr.mono (by decide)) (by rfl) (pa_cons (pv 0) pa_nil)))
    (pss_cons (ps_setLc (i := 2) (own := [("again", 6)]) (g := gName 6) (by rfl) sc_law.nd rfl rfl (sw_true rfl rfl rfl (by decide +kernel)) (pi_range1 (by rfl) B.b_range (pa_cons pe_int pa_nil)) (blkOk_by (own := [("again", 6)]) (N := n_law) (sc := defScope s_law) (by decide +kernel)) (fun _ _ _ _ _ => (pg_name (i := 6) sc_law.nd rfl (.inl rfl))) (fun _ _ _ _ _ => pts_nil) (fun _ _ _ _ _ => (pe_cd C_law_one_each (hr.mono (by decide)) (by rfl) (pa_cons (pe_ix (r := rIxL K) ix_list (pe_lst (pa_cons pe_str (pa_cons pe_str (pa_cons pe_str pa_nil)))) (pe_cd C_law_take (hr.mono (by decide)) (by rfl) (pa_cons (pv 1) (pa_cons pe_int pa_nil))) (fun _ _ => rfl)) pa_nil))))
    (pss_cons (ps_for PassesOwn.never rfl (pi_list (pv 2)) (pg_name (i := 3) sc_law.nd rfl (.inl rfl)) (pss_one (ps_for PassesOwn.never rfl (pi_enum (by rfl) B.b_enumerate (pa_cons (pv 3) pa_nil)) (pg_tup rfl (pgs_cons (pg_name (i := 4) sc_law.nd rfl (.inr rfl)) (pgs_cons (pg_name (i := 5) sc_law.nd rfl (.inl rfl)) pgs_nil))) (pss_cons (ps_if (PW.pt (pw_or (pt_not (pt_val (pe_callB (r := rIsX K) call_isX (by rfl) B.b_isinstance (by decide +kernel) (pa_cons (pv 5) (pa_cons (pe_glob (v := .ref (He.ga _ "KeptError")) rfl (Z.g "KeptError" (by decide)) rfl) pa_nil))))) (pw_or1 (pt_not (pt_val (pe_callB (r := rIsX K) call_isX (by rfl) B.b_isinstance (by decide +kernel) (pa_cons (pv 5) (pa_cons (pe_bltn (v := .ty "ValueError") (by rfl) B.b_ValueError (by decide +kernel) rfl) pa_nil)))))))) (pss_one (ps_ret pe_bl)) pss_nil)
    (pss_one (ps_if (pt_cmpR (r := rNeD K) (op_neD hr.units) (pe_cd C_law_kinds (hr.mono (by decide)) (by rfl) (pa_cons (pv 5) pa_nil)) (pe_lc (own := [("index", 7)]) (g := gName 7) (by rfl) sc_law.nd (pi_range1 (by rfl) B.b_range (pa_cons pe_int pa_nil)) (blkOk_by (own := [("index", 7)]) (N := n_law) (sc := defScope s_law) (by decide +kernel)) (fun _ _ _ _ _ => (pg_name (i := 7) sc_law.nd rfl (.inl rfl))) (fun _ _ _ _ _ => pts_nil) (fun _ _ _ _ _ => (pe_cmpR op_eq (pv 7) (pv 4) (nomark _)))) (nomark _)) (pss_one (ps_ret pe_bl)) pss_nil))))))
    (pss_cons (ps_if (pt_cmpR op_isnot_bl (pe_cd C_is_library (hr.mono (by decide)) (by rfl) (pa_cons (pe_ix (r := rIxL K) ix_list (pe_lst (pa_cons pe_non (pa_cons (pe_tup pa_nil) (pa_cons pe_str (pa_cons (pe_lst (pa_cons pe_int pa_nil)) pa_nil))))) (pe_cd C_law_take (hr.mono (by decide)) (by rfl) (pa_cons (pv 1) (pa_cons pe_int pa_nil))) (fun _ _ => rfl)) pa_nil)) pe_bl (nomark _)) (pss_one (ps_ret pe_bl)) pss_nil)
    (pss_one (ps_ret (pe_and (pe_callB (r := rIsX K) call_isX (by rfl) B.b_isinstance (by decide +kernel) (pa_cons (pe_exc1 (C := He.ga _ "KeptError") PySem.F.excBase_ValueError (Z.q "KeptError" (by decide)) (Z.g "KeptError" (by decide)) (Z.k "KeptError" (by decide)) (by rfl) pe_str) (pa_cons (pe_bltn (v := .ty "ValueError") (by rfl) B.b_ValueError (by decide +kernel) rfl) pa_nil))) (pe_one (pe_cmpR (r := rIn K true) op_notIn_seq pe_bl (pe_cd C_law_kinds (hr.mono (by decide)) (by rfl) (pa_cons (pe_exc1 (C := He.ga _ "KeptError") PySem.F.excBase_ValueError (Z.q "KeptError" (by decide)) (Z.g "KeptError" (by decide)) (Z.k "KeptError" (by decide)) (by rfl) pe_str) pa_nil)) (by rfl)))))))))), ?_⟩
    refine ⟨_, rfl, a, ns, rfl, hS, hlen, fun p c H1 hp hc x1 hP => ?_⟩
    refine ⟨2, rfl, by decide, by decide, fun Dl hD => lc_it walk_range (fun i H' => i ≤ 2 ∧ Made K p c Dl i H') ?_ (fun _ _ _ _ => trivial) ?_ ?_⟩
    · obtain ⟨xs, k, r, c1, c2, c3, c4, c5⟩ := id hP
      exact ⟨by omega, hP.ex (Ex.new hD), ne_of_none c2 hD, ne_of_none c3 hD, [], rfl, upd_same, fun r hr => nomatch hr⟩
    · rintro i x H9 H2 hi ⟨_, P2, npD, ncD, rs, l2, d2, r2⟩ ⟨rfl, rfl⟩
      refine ⟨rfl, tYes_go ?_⟩
      refine ⟨by decide, fun l hl => ?_⟩
      refine ⟨_, rfl, p, c, i, 3, rfl, P2.ex (Ex.new hl), by omega, by decide, by decide, fun g H4 g0 g1 e4 P4 => ?_⟩
      have nlp : l ≠ p := by
        obtain ⟨xs, k, r, c1, c2, c3, c4, c5⟩ := P2
        exact (ne_of_none c2 hl).symm
      have hl4 : H4 l = some (.lst [.str "", .str "one", .str "two words"]) := e4 _ _ nlp upd_same
      obtain ⟨z, hz⟩ : ∃ z, atI [V.str "", V.str "one", V.str "two words"] g = some (.str z) := by
        have h3 : g = 0 ∨ g = 1 ∨ g = 2 := by omega
        rcases h3 with rfl | rfl | rfl
        · exact ⟨_, rfl⟩
        · exact ⟨_, rfl⟩
        · exact ⟨_, rfl⟩
      refine ⟨l, _, g, .str z, rfl, rfl, sq_of hl4, hz, ?_⟩
      refine ⟨z, rfl, fun r es H5 nr ne x5 h5 row => ?_⟩
      have ee : ExP p H2 H4 := (ExP.of (Ex.new hl)).trans e4
      have hD4 : H4 Dl = some (.lst (rs.map V.ref)) := ee _ _ npD.symm d2
      have hD5 := x5 _ _ hD4
      obtain ⟨xs, k, rr, c1, c2, c3, c4, c5⟩ := id P4
      have nrp : r ≠ p := (ne_of_none c2 nr).symm
      have nrD : r ≠ Dl := (ne_of_none hD4 nr).symm
      have up : ∀ (a : Addr) (o : HO), a ≠ p → a ≠ Dl → H2 a = some o → upd H5 Dl (.lst (rs.map V.ref ++ [.ref r])) a = some o := fun a o n1 n2 h => by
        rw [upd_ne n2]
        exact x5 _ _ (ee _ _ n1 h)
      have u5 : ∀ (a : Addr) (o : HO), a ≠ Dl → H5 a = some o → upd H5 Dl (.lst (rs.map V.ref ++ [.ref r])) a = some o := fun a o n2 h => by
        rw [upd_ne n2]
        exact h
      refine ⟨_, hD5, by rw [List.length_map, l2]; exact Nat.lt_of_le_of_lt (show i ≤ 100 by omega) (by decide), by omega, ?_, npD, ncD, rs ++ [r], by rw [List.length_append, l2]; rfl, by rw [upd_same, List.map_append]; rfl, ?_⟩
      · exact ⟨xs, k, rr, c1, u5 _ _ npD (x5 _ _ c2), u5 _ _ ncD (x5 _ _ c3), c4, c5⟩
      · intro r' hr'
        rcases List.mem_append.mp hr' with hr' | hr'
        · obtain ⟨n1, n2, es', ne', h1, h2⟩ := r2 r' hr'
          exact ⟨n1, n2, es', ne', up _ _ n1 n2 h1, h2.keep fun e he o ho => up _ _ (ne' e he).1 (ne' e he).2 ho⟩
        · have er : r' = r := by simpa using hr'
          subst er
          have ne' : ∀ e ∈ es, e ≠ p ∧ e ≠ Dl := fun e he => ⟨(ne_of_none c2 (ne e he)).symm, (ne_of_none hD4 (ne e he)).symm⟩
          exact ⟨nrp, nrD, es, ne', u5 _ _ nrD h5, Exs.keep row fun e he o ho => u5 _ _ (ne' e he).2 ho⟩
    · rintro H2 ⟨_, P2, npD, ncD, rs, l2, d2, r2⟩
      refine q_forLn (ev_var rfl) (sq_of d2) (fun i σ' H' => ∃ x3 x4 x5 x6 x7, σ' = [some (.ref a), some (.ref p), some (.ref Dl), x3, x4, x5, x6, x7] ∧ Ex H2 H') (fun H3 x3 => ⟨_, _, _, _, _, rfl, x3⟩) (fun i σ' H' _ ⟨_, _, _, _, _, _, e⟩ => sq_of (e _ _ d2)) ?_ ?_
      · rintro i x σ' H3 hx ⟨x3, x4, x5, x6, x7, rfl, e3⟩
        obtain ⟨r, hr, rfl⟩ : ∃ r, r ∈ rs ∧ x = .ref r := by
          rw [List.getElem?_map] at hx
          cases e : rs[i]? with
          | none =>
            rw [e] at hx
            cases hx
          | some r =>
            rw [e] at hx
            exact ⟨r, List.mem_of_getElem? e, (Option.some.inj hx).symm⟩
        obtain ⟨_, _, es, _, h1, h2⟩ := r2 r hr
        refine ⟨_, rfl, r, _, rfl, sq_of (e3 _ _ h1), for_it walk_enum (fun j σ' H' => ∃ v4 v5 v6 v7, σ' = [some (.ref a), some (.ref p), some (.ref Dl), some (.ref r), v4, v5, v6, v7] ∧ Ex H2 H') ⟨_, _, _, _, rfl, e3⟩ (fun j σ' H' _ ⟨_, _, _, _, _, e⟩ => sq_of (e _ _ h1)) ?_ ?_⟩
        · rintro j y σ' H4 H5 hj ⟨v4, v5, v6, v7, rfl, e4⟩ ⟨T, u1, u2, rfl, hT, rfl, g1, g2⟩
          cases g1
          obtain ⟨e, x, rfl, hx, he⟩ := h2.at g2
          have e5 : Ex H2 (upd H4 T (.tup [.int (j : Nat), .ref e])) := e4.trans (Ex.new hT)
          refine ⟨T, [.int (j : Nat), .ref e], rfl, .inl (.inl upd_same), rfl, _, _, rfl, _, _, rfl, rfl, ?_⟩
          have hxA := mem_exA hx
          refine q_when (b := false) (et_is (et_or (et_not (et_B (ev_isX (b := true) Z (ev_var rfl) hxA (e5 _ _ he) ev_c (.own _) (by rw [Z.one x hxA "KeptError" (by decide)]; simp)))) (fun _ => et_not (et_B (ev_isX Z (ev_var rfl) hxA (e5 _ _ he) ev_c (.ty "ValueError") (Z.ve x hxA))))) rfl) (fun z => nomatch z) (fun _ H6 x6 => ?_)
          have e6 := e5.trans x6
          refine s_when (b := false) (et_test (ev_opLL (xs := (kb x).map V.bl) (ys := (kb x).map V.bl) ?_ ?_ fun p q H7 hp hq _ => ne_bl hp hq)) (fun z => nomatch z) (fun _ H7 x7 => ⟨_, _, _, _, rfl, e6.trans x7⟩)
          · refine el_call (ea_cons (ev_var rfl) ea_nil) fun H7 x7 Q' q' E' => ?_
            refine ⟨e, x, rfl, hxA, x7 _ _ (e6 _ _ he), fun l H8 hl x8 h8 => q' l H8 hl x8 ?_⟩
            rw [h8]
            show some (HO.lst (exN.map (fun y => V.bl (decide (x = y))))) = some (.lst ((exN.map fun y => decide (x = y)).map V.bl))
            rw [List.map_map]
            rfl
          · have z := el_lcR1 (H := H6) (σ := [some (.ref a), some (.ref p), some (.ref Dl), some (.ref r), some (.int (j : Nat)), some (.ref e), v6, v7]) (ta := tCons (tC (.int 11)) tNil) (j := 7) (vs := [7]) (n := 11) (t := tYes) (te := tOp rEq (tVar 7) (tVar 4)) (fun _ => true) (fun i => V.bl (decide ((i : Int) = (j : Int)))) (ea_cons ev_c ea_nil) (by decide) (fun _ => rfl)
              (fun i H7 _ _ => fun H8 x8 Q' q' => q' H8 (Ex.refl H8)) (fun i H7 _ _ _ => ev_is (ev_op (ev_var rfl) (ev_var rfl) (rv_eq rfl)) (by congr 1; exact decide_eq_decide.mpr ⟨fun h => V.int.inj h, fun h => by rw [h]⟩))
            rw [given11, ← kb_eq j x hx] at z
            exact z
        · rintro σ' H4 ⟨x4, x5, x6, x7, rfl, e4⟩
          exact ⟨_, _, _, _, _, rfl, e4⟩
      · rintro σ' H3 ⟨x3, x4, x5, x6, x7, rfl, e3⟩
        have P3 := P2.ex e3
        refine ⟨Nat.zero_le _, fun t ht => ?_⟩
        refine ⟨by decide, fun l2 hl2 => ?_⟩
        refine ⟨by show 4 ≤ sizeLine; decide, fun l hl => ?_⟩
        obtain ⟨xs, k, rr, c1, c2, c3, c4, c5⟩ := id P3
        have ntp : t ≠ p := (ne_of_none c2 ht).symm
        have nl2p : l2 ≠ p := (ne_of_none (Ex.new ht _ _ c2) hl2).symm
        have nlp : l ≠ p := (ne_of_none (((Ex.new ht).trans (Ex.new hl2)) _ _ c2) hl).symm
        have xx := ((Ex.new (o := .tup []) ht).trans (Ex.new (o := .lst [V.int 0]) hl2)).trans (Ex.new (o := .lst [V.non, V.ref t, V.str "text", V.ref l2]) hl)
        refine ⟨_, rfl, p, c, 2, 4, rfl, P3.ex xx, by decide, by decide, by decide, fun g H4 g0 g1 e4 P4 => ?_⟩
        have hl4 : H4 l = some (.lst [V.non, V.ref t, V.str "text", V.ref l2]) := e4 _ _ nlp upd_same
        have ht4 : H4 t = some (.tup []) := e4 _ _ ntp (Ex.new hl _ _ (Ex.new hl2 _ _ upd_same))
        have h24 : H4 l2 = some (.lst [V.int 0]) := e4 _ _ nl2p (Ex.new hl _ _ upd_same)
        obtain ⟨v, hz, hv⟩ : ∃ v, atI [V.non, V.ref t, V.str "text", V.ref l2] g = some v ∧ (v = .non ∨ (∃ z, v = .str z) ∨ (∃ a xs, v = .ref a ∧ H4 a = some (.lst xs)) ∨ (∃ a, v = .ref a ∧ H4 a = some (.tup []))) := by
          have h4 : g = 0 ∨ g = 1 ∨ g = 2 ∨ g = 3 := by omega
          rcases h4 with rfl | rfl | rfl | rfl
          · exact ⟨_, rfl, .inl rfl⟩
          · exact ⟨_, rfl, .inr (.inr (.inr ⟨t, rfl, ht4⟩))⟩
          · exact ⟨_, rfl, .inr (.inl ⟨_, rfl⟩)⟩
          · exact ⟨_, rfl, .inr (.inr (.inl ⟨l2, _, rfl, h24⟩))⟩
        refine ⟨l, _, g, v, rfl, rfl, sq_of hl4, hz, ?_⟩
        refine ⟨v, rfl, hv, fun H5 x5 => ?_⟩
        refine ⟨false, false, rfl, rfl, _, rfl, ite2 (fun e => by simp at e) (fun _ => ?_)⟩
        intro e1 h1
        refine ⟨e1, He.ga K "KeptError", .ty "ValueError", .type "ValueError", true, rfl, upd_same, Z.e _ (by decide), .ty _, Z.ve _ (by decide), true, rfl, iteT ?_⟩
        intro e2 h2
        refine ⟨e2, "KeptError", rfl, by decide, upd_same, fun l3 H6 hl3 x6 h6 => ?_⟩
        refine ⟨l3, _, rfl, .inl (sq_of h6), rfl, by decide +kernel, ?_⟩
        have eI : (if true = true then !inV (V.bl true) (exN.map fun y => V.bl (decide (("KeptError" : Str) = y))) else inV (V.bl true) (exN.map fun y => V.bl (decide (("KeptError" : Str) = y)))) = true := by decide +kernel
        rw [eI]
        exact q _
end
end Kc

set_option Elab.async false
set_option linter.all false
set_option maxRecDepth 100000
set_option maxHeartbeats 0
namespace Kc
open PySem PySem.Spec PyProof.Rows L2 Evl
/-! ### the head: facts by names, the run -/
def d_law_open : He.DefD := ⟨("_law_open", none), "_law_open", "_law_open", defArgs s_law_open, defBody s_law_open, defScope s_law_open, [], []⟩
def d_law_spread : He.DefD := ⟨("_law_spread", none), "_law_spread", "_law_spread", defArgs s_law_spread, defBody s_law_spread, defScope s_law_spread, [], []⟩
def d_law_take : He.DefD := ⟨("_law_take", none), "_law_take", "_law_take", defArgs s_law_take, defBody s_law_take, defScope s_law_take, [], []⟩
def d_law_one_each : He.DefD := ⟨("_law_one_each", none), "_law_one_each", "_law_one_each", defArgs s_law_one_each, defBody s_law_one_each, defScope s_law_one_each, [], []⟩
def d_law_kinds : He.DefD := ⟨("_law_kinds", none), "_law_kinds", "_law_kinds", defArgs s_law_kinds, defBody s_law_kinds, defScope s_law_kinds, [], []⟩
def d_is_tuple : He.DefD := ⟨("is_tuple", none), "is_tuple", "is_tuple", defArgs s_is_tuple, defBody s_is_tuple, defScope s_is_tuple, [], []⟩
def d_is_library : He.DefD := ⟨("is_library", none), "is_library", "is_library", defArgs s_is_library, defBody s_is_library, defScope s_is_library, [], []⟩
def d_law : He.DefD := ⟨("law", none), "law", "law", defArgs s_law, defBody s_law, defScope s_law, [], []⟩
def fn : List He.DefD := [d_law_open, d_law_spread, d_law_take, d_law_one_each, d_law_kinds, d_is_tuple, d_is_library, d_law]
def fa : List He.Fa := [.glo "_law_open", .glo "_law_spread", .glo "_law_take", .glo "_law_one_each", .glo "_law_kinds", .glo "is_tuple", .glo "is_library", .glo "law", .free "int", .free "len", .free "list", .free "enumerate", .free "range", .free "isinstance", .free "tuple", .free "ValueError"]
def dB {α : Type} [DecidableEq α] (a b : α) : Bool := decide (a = b)
def xB (K : PySem.W.Frag) : Bool := exA.all fun x => dB (PySem.W.nsIn K mainGlobals x) (some (some (.ref (He.ga K x)))) && (PySem.W.keepIn K (.ref (He.ga K x)) && (PySem.W.excIn K (He.ga K x) [.type "ValueError", .type "Exception", .type "BaseException", .type "object"] "ValueError.__new__" &&
  ((dB (PySem.W.findIn K (.ref (He.ga K x)) "__getattribute__") (some (some (.builtin "BaseException.__getattribute__"))) && (dB (PySem.W.findIn K (.ref (He.ga K x)) "__getattr__") (some none) && (dB (PySem.W.subIn K (.ref (He.ga K x)) (.type "BaseException")) (some true) &&
    (PySem.W.hasDictIn K (He.ga K x) && (dB (PySem.W.findIn K (.ref (He.ga K x)) "__class__") (some (some (.builtin "object.__class__"))) && (dB (PySem.W.specialIn K (.builtin "object.__class__") "__get__") (some (some (.builtin "getset_descriptor.__get__"))) &&
    (dB (PySem.W.takesIn K (.builtin "object.__class__")) (some true) && dB (PySem.W.mroIn K (He.ga K x) (.type "object")) (some true)))))))) &&
  ((exA.all fun y => dB (PySem.W.kitOne K (.ref (He.ga K x)) (.ref (He.ga K y))) (some (decide (x = y) || decide (y = "KeptError")))) && dB (PySem.W.kitOne K (.ref (He.ga K x)) (.type "ValueError")) (some true)))))
theorem dB_eq {α : Type} [DecidableEq α] {a b : α} (h : dB a b = true) : a = b := of_decide_eq_true h
theorem xs_of {K : PySem.W.Frag} {h : Heap} {mg : Str → Option Value} (X : K.In h) (G : h.Ns mainGlobals mg) (c : xB K = true) : Xs K mg := by
  have a := List.all_eq_true.mp (show exA.all _ = true from c)
  simp only [Bool.and_eq_true] at a
  exact ⟨fun x hx => PySem.W.mg_of X G (dB_eq (a x hx).1), fun x hx => (a x hx).2.1, fun x hx => (a x hx).2.2.1,
    fun x hx => by
      obtain ⟨z1, z2, z3, z4, z5, z6, z7, z8⟩ := (a x hx).2.2.2.1
      exact ⟨dB_eq z1, dB_eq z2, dB_eq z3, z4, dB_eq z5, dB_eq z6, dB_eq z7, dB_eq z8⟩,
    fun x hx y hy => dB_eq (List.all_eq_true.mp (a x hx).2.2.2.2.1 y hy), fun x hx => dB_eq (a x hx).2.2.2.2.2⟩
def ob (g : Addr → Option Obj) : He.AlD × Bool := (He.obsD fa fn (He.frG g (He.asD g 4)), xB (He.frG g (He.asD g 4)))
def hk : PySem.W.Hook where
  α := He.AlD × Bool
  obs s := ob s.heap.get?
  val _ := (He.valD fn, true)
  says _ h := ∃ K : PySem.W.Frag, K.In h ∧ He.SaysD fa fn K ∧ xB K = true
  of _ _ e := ⟨_, He.frG_in, congrArg Prod.fst e, congrArg Prod.snd e⟩
  keeps _ _ _ := fun ⟨K, k1, k2⟩ k => ⟨K, PySem.W.Frag.In.keeps k1 k, k2⟩
abbrev R : PySem.W.OpenRow := PySem.W.OpenLaw.row PySem.Challenge.rw_keptcalls_k02_errors_by_hand
def names1 : List PySem.Str := ["KeptError", "NoLibrary", "NoSlots", "NoHistory", "NoChoice", "NoLimit", "NoMenu", "NoPrices", "NoFunction", "NoNumber", "NoWorld", "NoWay", "MOST_FUNCTIONS", "MOST_PARAMETERS", "MOST_VARIABLES", "MOST_INSTRUCTIONS", "MOST_FIELDS", "MOST_STEPS", "GREATEST_ERROR", "ROLES", "is_library", "is_integer", "is_tuple", "is_sort", "parameter_sorts", "is_ascending", "_are_kinds", "_is_kind", "_is_field", "_has_head"]
def names2 : List PySem.Str := ["_has_body", "_is_instruction", "_has_form", "_bounds", "_is_part", "_sorts_agree", "_has_field", "_are_exported", "_steps", "_law_open", "_law_spread", "_law_take", "_law_one_each", "_law_kinds"]
theorem run (w : World) : HandSHeadRun.RunEq R (PySem.W.view R.prog [47]) hk (fun s => ob (HandSHeadRun.getT s)) 4000 (names1 ++ names2) w :=
  PySem.W.byRow2 "special-get-raises" (P := fun w => HandSHeadRun.RunEq R (PySem.W.view R.prog [47]) hk (fun s => ob (HandSHeadRun.getT s)) 4000 (names1 ++ names2) w) (fun w os => by kernel_rfl) (fun w os => by kernel_rfl) w
theorem fun_of {K : PySem.W.Frag} {x : Str} {st : Stmt} {f : Addr} {fd : FuncData} (F : FunD K x x (defArgs st) (defBody st) (defScope st) [] [] f fd) : Fun K x x st f fd := by
  obtain ⟨oc, od, dV, kV, doc, pm, an, cdv, ct, osl, e, l, c, d, _⟩ := F.ex
  rcases d with ⟨_, rfl⟩ | ⟨z, _⟩
  · exact ⟨⟨oc, od, kV, doc, pm, an, cdv, ct, osl, e, l, c⟩, F.kp⟩
  · exact absurd rfl z
theorem facts {P : Program} {w : World} {K : PySem.W.Frag} {h : Heap} {mg : Str → Option Value} {f : Addr} (X : K.In h) (G : h.Ns mainGlobals mg) (hfa : mg ("law" : Str) = some (.ref f)) (c : He.SaysD fa fn K) (cx : xB K = true) :
    ∃ fd : FuncData, (∀ (s : Shared) (v : Value), BindsTo s fd ⟨[v], []⟩ [("script", v)]) ∧ ∀ base : Heap, K.In base → base.Ns mainGlobals mg → FnOk P w K mg base CX0 3 f fd p_law (spLaw K) := by
  have Z := xs_of X G cx
  obtain ⟨fd_law_open, F_law_open⟩ := c.def_ 0 (d := d_law_open) rfl
  obtain ⟨fd_law_spread, F_law_spread⟩ := c.def_ 1 (d := d_law_spread) rfl
  obtain ⟨fd_law_take, F_law_take⟩ := c.def_ 2 (d := d_law_take) rfl
  obtain ⟨fd_law_one_each, F_law_one_each⟩ := c.def_ 3 (d := d_law_one_each) rfl
  obtain ⟨fd_law_kinds, F_law_kinds⟩ := c.def_ 4 (d := d_law_kinds) rfl
  obtain ⟨fd_is_tuple, F_is_tuple⟩ := c.def_ 5 (d := d_is_tuple) rfl
  obtain ⟨fd_is_library, F_is_library⟩ := c.def_ 6 (d := d_is_library) rfl
  obtain ⟨fd_law, F_law⟩ := c.def_ 7 (d := d_law) rfl
  have B : Bt mg := ⟨He.free_ok X G (c.fact 8 (f := .free "int") rfl), He.free_ok X G (c.fact 9 (f := .free "len") rfl), He.free_ok X G (c.fact 10 (f := .free "list") rfl), He.free_ok X G (c.fact 11 (f := .free "enumerate") rfl), He.free_ok X G (c.fact 12 (f := .free "range") rfl), He.free_ok X G (c.fact 13 (f := .free "isinstance") rfl), He.free_ok X G (c.fact 14 (f := .free "tuple") rfl), He.free_ok X G (c.fact 15 (f := .free "ValueError") rfl)⟩
  have e := hfa.symm.trans (He.glo_ok X G (c.fact 7 (f := .glo "law") rfl))
  cases e
  have b := FunD.bindsA (ps := ["script"]) F_law fun _ _ _ _ _ _ us hl => match us, hl with | [_], _ => rfl
  refine ⟨fd_law, fun s v => b s [v] rfl, fun base _ _ => ?_⟩
  have C_law_open : Cd P w K mg base "_law_open" p_law_open 1 (spOpen K) := ⟨_, _, ok_open (fun_of (x := "_law_open") (st := s_law_open) F_law_open) B, He.glo_ok X G (c.fact 0 (f := .glo "_law_open") rfl), F_law_open.kp, (fun_of (x := "_law_open") (st := s_law_open) F_law_open).binds fun _ _ _ _ _ _ us hl => match us, hl with | [_], _ => rfl⟩
  have C_law_spread : Cd P w K mg base "_law_spread" p_law_spread 1 (spSpread) := ⟨_, _, ok_spread (fun_of (x := "_law_spread") (st := s_law_spread) F_law_spread) B, He.glo_ok X G (c.fact 1 (f := .glo "_law_spread") rfl), F_law_spread.kp, (fun_of (x := "_law_spread") (st := s_law_spread) F_law_spread).binds fun _ _ _ _ _ _ us hl => match us, hl with | [_, _], _ => rfl⟩
  have C_law_take : Cd P w K mg base "_law_take" p_law_take 2 (spTake) := ⟨_, _, ok_take (fun_of (x := "_law_take") (st := s_law_take) F_law_take) B C_law_spread, He.glo_ok X G (c.fact 2 (f := .glo "_law_take") rfl), F_law_take.kp, (fun_of (x := "_law_take") (st := s_law_take) F_law_take).binds fun _ _ _ _ _ _ us hl => match us, hl with | [_, _], _ => rfl⟩
  have C_law_one_each : Cd P w K mg base "_law_one_each" p_law_one_each 1 (spOne K) := ⟨_, _, ok_one (fun_of (x := "_law_one_each") (st := s_law_one_each) F_law_one_each) B Z, He.glo_ok X G (c.fact 3 (f := .glo "_law_one_each") rfl), F_law_one_each.kp, (fun_of (x := "_law_one_each") (st := s_law_one_each) F_law_one_each).binds fun _ _ _ _ _ _ us hl => match us, hl with | [_], _ => rfl⟩
  have C_law_kinds : Cd P w K mg base "_law_kinds" p_law_kinds 1 (spKinds K) := ⟨_, _, ok_kinds (fun_of (x := "_law_kinds") (st := s_law_kinds) F_law_kinds) B Z, He.glo_ok X G (c.fact 4 (f := .glo "_law_kinds") rfl), F_law_kinds.kp, (fun_of (x := "_law_kinds") (st := s_law_kinds) F_law_kinds).binds fun _ _ _ _ _ _ us hl => match us, hl with | [_], _ => rfl⟩
  have C_is_tuple : Cd P w K mg base "is_tuple" p_is_tuple 1 (spIsTup) := ⟨_, _, ok_isTup (fun_of (x := "is_tuple") (st := s_is_tuple) F_is_tuple) B, He.glo_ok X G (c.fact 5 (f := .glo "is_tuple") rfl), F_is_tuple.kp, (fun_of (x := "is_tuple") (st := s_is_tuple) F_is_tuple).binds fun _ _ _ _ _ _ us hl => match us, hl with | [_, _, _], _ => rfl⟩
  have C_is_library : Cd P w K mg base "is_library" p_is_library 2 (spLib) := ⟨_, _, ok_lib (fun_of (x := "is_library") (st := s_is_library) F_is_library) B C_is_tuple, He.glo_ok X G (c.fact 6 (f := .glo "is_library") rfl), F_is_library.kp, (fun_of (x := "is_library") (st := s_is_library) F_is_library).binds fun _ _ _ _ _ _ us hl => match us, hl with | [_], _ => rfl⟩
  exact ok_law (fun_of (x := "law") (st := s_law) F_law) B Z C_law_open C_law_take C_law_one_each C_law_kinds C_is_library
end Kc
open PySem PySem.W PySem.Calls PyProof.Rows
theorem PySem.Challenge.cw_keptcalls_k02_errors_by_hand_holds : PySem.Challenge.rw_keptcalls_k02_errors_by_hand.Holds := by
  w_on; o_law
  refine HandSHeadRun.head_any (r := OpenLaw.row PySem.Challenge.rw_keptcalls_k02_errors_by_hand) (q := view (OpenLaw.row PySem.Challenge.rw_keptcalls_k02_errors_by_hand).prog [47]) (H := Kc.hk) (ob := fun s => Kc.ob (HandSHeadRun.getT s)) (M := 4000) (loose := Kc.names1 ++ Kc.names2) (d := HandSHeadRun.topDef (OpenLaw.row PySem.Challenge.rw_keptcalls_k02_errors_by_hand).prog 47) (kwd := []) (fun s => congrArg Kc.ob (funext (HandSHeadRun.getT_eq s)))
    (by kernel_rfl) (fun s => by kernel_rfl) Kc.run (by kernel_rfl) (by kernel_rfl) (by kernel_rfl) (by rfl) (by first | assumption | decide +kernel) (by decide +kernel) ⟨rfl, rfl, rfl, rfl, rfl, by decide +kernel⟩ ?hw ?hc
  case hw => w_witness2
  case hc =>
    refine L2.walk_ofE (l := PySem.Challenge.rw_keptcalls_k02_errors_by_hand) (n := 63) (k := 3) (x := "script") (CX := L2.CX0) rfl (by decide) (by kernel_rfl) ⟨rfl, by decide, by decide⟩ ?F (fun _ _ _ _ z => z)
    intro w mg fa h Y G hmg0
    obtain ⟨K, KX, c, cx⟩ := Y
    have hmg : mg ("law" : PySem.Str) = some (.ref fa) := by
      have e : (HandSHeadRun.topDef (OpenLaw.row PySem.Challenge.rw_keptcalls_k02_errors_by_hand).prog 47).name = ("law" : PySem.Str) := by kernel_rfl
      rw [← e]
      exact hmg0
    obtain ⟨fd, hb, hF⟩ := Kc.facts (P := (PySem.Challenge.rw_keptcalls_k02_errors_by_hand).prog) (w := w) KX G hmg c cx
    exact ⟨K, fd, Kc.spLaw K, KX, hb, fun H a ns hl _ hS => ⟨a, ns, rfl, hS, hl, fun _ => rfl⟩, hF⟩
