import PyProof.Rows.All
import Wide.All
import OpenK.AllK
import Wide.FinOn
import PyProof.NeKinds
import HandS.ForMost
import HandS.IsInst
import HandS.Conv
import HandS.Codes
import HandS.Evl
import HandS.Strs
import HandS.SetFor
import HandS.SortInts
import HandS.Steps
import PyProof.Rows.IntBool
import PyProof.CallStr
import PyProof.FitsInt
import PyProof.EqKinds
import HandS.Style
import HandS.TupMul
import HandS.SetBool
import HandS.DictComp
import KE.KDictPairs
import HandS.WordsDict
import HandS.Iter
import HandS.SortKw
import KE.GoesEnumKw
import HandS.More
import HandS.ExcInit
import HandS.Nested
import KE.KExcSuper
import HandS.HotCalls
import HandS.ExcField
import HandS.WordsExc
import KE.KExcIs
import HandS.FStr
import HandS.Text
import HandS.ExcInitHot
import HandS.OwnEq
import HandS.OwnIter
import HandS.Dict
import HandS.Defaults
import HandS.CallSlots
import HandS.TupAny
import PyProof.FString2
import HandS.MakeKwOnly
import HandS.ExcValue
import HandS.Ends
import HandS.Words
import HandS.Head0
import HandS.Head1
import HandS.Head2
import HandS.HeadEnd
import HandS.HeadHook1
import HandS.HeadHook2
import HandS.Walk
import HandS.Wide
import PySem.Challenge.RW_tidecopy_k49_refusals_apart
set_option Elab.async false
set_option linter.all false
set_option maxRecDepth 100000
namespace Tc
open PySem L2
/-- a def of the text under its name, with its promise -/
def Own (P : Program) (w : World) (K : PySem.W.Frag) (mg : Str → Option Value) (base : Heap) (x : Str) (ps : List Str) (k : Nat) (sp : Sp) : Prop :=
  ∃ (f : Addr) (fd : FuncData), FnOk P w K mg base CX0 k f fd ps sp ∧ mg x = some (.ref f) ∧ PySem.W.keepIn K (.ref f) = true ∧ Binds K fd ps []
theorem pe_own {X : Cx} {x : Str} {ps : List Str} {k j : Nat} {sp : Sp} {e : Expr} {es : List Expr} {t : TA} {p pos : Pos} (d : Own X.prog X.w X.K X.mg X.base x ps k sp) (hr : Room j X.A) (hj : k ≤ j) (hg : Gl X x) (ha : PA X (e :: es) t)
    (he : starEach (e :: es) X.env = (false, eval e X.env) :: starEach es X.env := by rfl) (hdb : (x == ("__debug__" : Str)) = false := by decide) (hpl : (backTo pos (starEach es X.env)).any (·.1) = false := by rfl) :
    PE X (.Call (.Name x p) (e :: es) [] pos) (tCall sp [] E0 t) := by
  obtain ⟨f, fd, F, hm, hk, hb⟩ := d
  exact pe_call F (hr.mono hj) hg hm hk hb .nil pass0 ha hdb he hpl
/-! ### one object hidden: the bag of draws, which changes -/
def hid (b : Addr) (H : Hp) : Hp := fun a => if a = b then none else H a
theorem hid_same (b : Addr) (H : Hp) : Same (hid b H) H := fun a o h => by
  unfold hid at h
  split at h
  · cases h
  · exact h
theorem hid_at {b a : Addr} {H : Hp} {o : HO} (h : H a = some o) (n : a ≠ b) : hid b H a = some o := by
  unfold hid
  rw [if_neg n]
  exact h
theorem hid_self (b : Addr) (H : Hp) : hid b H b = none := by
  unfold hid
  rw [if_pos rfl]
theorem hid_upd (b : Addr) (H : Hp) (o : HO) : hid b (upd H b o) = hid b H := by
  funext a
  unfold hid
  by_cases h : a = b
  · rw [if_pos h, if_pos h]
  · rw [if_neg h, if_neg h, upd_ne h]
/-- the bag at b, and all else as it was or more -/
def Bag (H : Hp) (b : Addr) : Prop := ∃ x y : Int, H b = some (.lst [.int x, .int y]) ∧ 0 ≤ x ∧ 0 ≤ y ∧ y < 2147483648
structure Fr (b : Addr) (H H' : Hp) : Prop where
  bag : Bag H' b
  sm : Same (hid b H) (hid b H')
theorem Fr.refl {b : Addr} {H : Hp} (h : Bag H b) : Fr b H H := ⟨h, Same.refl _⟩
theorem Fr.trans {b : Addr} {H H1 H2 : Hp} (x : Fr b H H1) (y : Fr b H1 H2) : Fr b H H2 := ⟨y.bag, x.sm.trans y.sm⟩
theorem Bag.ne {b p : Addr} {H : Hp} (h : Bag H b) (n : H p = none) : p ≠ b := fun e => by
  obtain ⟨x, y, h, _⟩ := h
  rw [e, h] at n
  cases n
theorem Fr.new {b p : Addr} {H : Hp} {o : HO} (h : Bag H b) (n : H p = none) : Fr b H (upd H p o) := by
  have hp := h.ne n
  refine ⟨?_, fun a u e => ?_⟩
  · obtain ⟨x, y, h, r⟩ := h
    exact ⟨x, y, by rw [upd_ne hp.symm]; exact h, r⟩
  · have e1 := hid_same b H a u e
    have e2 : a ≠ b := fun z => by
      rw [z, hid_self] at e
      cases e
    exact hid_at (by rw [upd_ne (ne_of_none e1 n)]; exact e1) e2
/-- an object made on the way may change -/
theorem Fr.mut {b p : Addr} {H H' : Hp} {o : HO} (x : Fr b H H') (n : H p = none) (hb : p ≠ b) : Fr b H (upd H' p o) := by
  refine ⟨?_, fun a u e => ?_⟩
  · obtain ⟨x1, y, h, r⟩ := x.bag
    exact ⟨x1, y, by rw [upd_ne hb.symm]; exact h, r⟩
  · have e1 := hid_same b H a u e
    have e3 := x.sm a u e
    have e4 := hid_same b H' a u e3
    have e2 : a ≠ b := fun z => by
      rw [z, hid_self] at e
      cases e
    exact hid_at (by rw [upd_ne (ne_of_none e1 n)]; exact e4) e2
theorem Fr.at {b a : Addr} {H H' : Hp} {o : HO} (x : Fr b H H') (h : H a = some o) (n : a ≠ b) : H' a = some o := hid_same b H' a o (x.sm a o (hid_at h n))
theorem Fr.free {b p : Addr} {H H' : Hp} (x : Fr b H H') (hb : Bag H b) (h : H' p = none) : H p = none := by
  have hp : p ≠ b := x.bag.ne h
  cases e : H p with
  | none => rfl
  | some o =>
    rw [x.at e hp] at h
    cases h
/-! ### data -/
mutual
theorem dp_same {K : PySem.W.Frag} {H H' : Hp} (e : Same H H') : ∀ (d : PyData) (v : V), Dp K H v d → Dp K H' v d
  | _, _, .non => .non
  | _, _, .bl b => .bl b
  | _, _, .int i => .int i
  | _, _, .str x => .str x
  | _, _, .lst h r => .lst (Evl.ex_l e h) (dps_same e _ _ r)
  | _, _, .tup h r => .tup (Evl.ex_t e h) (dps_same e _ _ r)
theorem dps_same {K : PySem.W.Frag} {H H' : Hp} (e : Same H H') : ∀ (ds : List PyData) (vs : List V), DpAll K H vs ds → DpAll K H' vs ds
  | _, _, .nil => .nil
  | _, _, .cons h r => .cons (dp_same e _ _ h) (dps_same e _ _ r)
end
theorem dps_len {K : PySem.W.Frag} {H : Hp} : ∀ {vs : List V} {ds : List PyData}, DpAll K H vs ds → vs.length = ds.length
  | _, _, .nil => rfl
  | _, _, .cons _ r => congrArg (· + 1) (dps_len r)
theorem dps_app {K : PySem.W.Frag} {H : Hp} : ∀ {vs ws : List V} {ds es : List PyData}, DpAll K H vs ds → DpAll K H ws es → DpAll K H (vs ++ ws) (ds ++ es)
  | _, _, _, _, .nil, q => q
  | _, _, _, _, .cons h r, q => .cons h (dps_app r q)
/-! ### kinds -/
/-! ### a list beside the empty one -/
def rNeE (K : PySem.W.Frag) : R2 := fun x y H Q => ∃ (a b : Addr) (xs : List V), x = .ref a ∧ y = .ref b ∧ SqL K H a xs ∧ SqL K H b [] ∧ Q (.bl (!xs.isEmpty)) H
theorem op_neE {X : Cx} (hu : X.A.units + 64 < cLine) : OpR X (compareOp .NotEq) (rNeE X.K) := by
  intro pins s σ H x y v u Q I rx ry h
  obtain ⟨a, b, xs, rfl, rfl, ha, hb, q⟩ := h
  cases xs with
  | nil => exact op_neD hu pins s σ H _ _ v u Q I rx ry ⟨.list [], .list [], .lst ha .nil, .lst hb .nil, rfl, rfl, q⟩
  | cons z zs =>
    cases (show v = Value.ref a from rx)
    cases (show u = Value.ref b from ry)
    obtain ⟨i1, r1, l1, _⟩ := I.list ha
    obtain ⟨i2, r2, l2, _⟩ := I.list hb
    have h1 : (i1.toArray.size != i2.toArray.size) = true := by
      have e1 := r1.length
      have e2 := r2.length
      simp only [List.size_toArray]
      rw [← e1, ← e2]
      rfl
    exact SeqAt.RcNeAt.lists_lengths l1.isList l2.isList h1 (by omega) _ _ _ _ ⟨.bl true, H, I, rfl, q⟩
/-! ### evaluation of tests over data -/
section
open Evl
variable {K : PySem.W.Frag} {σ : L2.St} {H : Hp} {ta tb tc : TE} {x y z v : V} {d : PyData}
theorem ev_ixT {p : Addr} {xs : List V} {j : Nat} (ha : Ev ta σ H (.ref p)) (h : SqT K H p xs) (hj : xs[j]? = some v) : Ev (tOp (rIxT K) ta (tC (.int (j : Int)))) σ H v := ev_op ha ev_c (rv_ixT h (atI_nat hj))
theorem ev_ix0 {p : Addr} {xs : List V} (ha : Ev ta σ H (.ref p)) (h : SqT K H p (v :: xs)) : Ev (tOp (rIxT K) ta (tC (.int 0))) σ H v := ev_ixT (j := 0) ha h rfl
end
end Tc
/-! sets of ints out of a list, and their sorted list, of any length -/
namespace Tc
open PySem L2 PyProof.Rows
/-! ### the rules -/
end Tc
/-! the sorted list of a set of ints, of any length -/
namespace Tc
open PySem L2 PyProof.Rows
end Tc
namespace Tc
open PySem L2 Evl
section
variable {K : PySem.W.Frag} {σ : L2.St} {H : Hp} {ta tb tc te : TE} {x y z v : V} {d : PyData}
theorem s_next {D : Ends} {σ : L2.St} {H : Hp} (h : D.nx σ H) : tNext D σ H := h
theorem s_seq {D : Ends} {σ : L2.St} {H : Hp} {t u : TS} (h : t { D with nx := u D } σ H) : tSeq t u D σ H := h
theorem ev_l0 {p : Addr} {xs : List V} (ha : Ev ta σ H (.ref p)) (h : SqL K H p (v :: xs)) : Ev (tOp (rIxL K) ta (tC (.int 0))) σ H v := ev_op ha ev_c (rv_ixL h (atI_nat (j := 0) rfl))
theorem ev_l1 {p : Addr} {xs : List V} (ha : Ev ta σ H (.ref p)) (h : SqL K H p (x :: v :: xs)) : Ev (tOp (rIxL K) ta (tC (.int 1))) σ H v := ev_op ha ev_c (rv_ixL h (atI_nat (j := 1) rfl))
theorem ex_hid {b : Addr} {H H1 : Hp} (e : Ex H H1) : Same (hid b H) (hid b H1) := fun a u h => by
  have n : a ≠ b := fun z => by
    rw [z, hid_self] at h
    cases h
  exact hid_at (e a u (hid_same b H a u h)) n
theorem Fr.ex {b : Addr} {H H1 : Hp} (h : Bag H b) (e : Ex H H1) : Fr b H H1 := by
  obtain ⟨x, y, hb, r⟩ := h
  exact ⟨⟨x, y, e b _ hb, r⟩, ex_hid e⟩
theorem Fr.put {b : Addr} {H H1 : Hp} {x y : Int} (e : Ex H H1) (hx : 0 ≤ x) (hy : 0 ≤ y) (hz : y < 2147483648) : Fr b H (upd H1 b (.lst [.int x, .int y])) := by
  refine ⟨⟨x, y, upd_same, hx, hy, hz⟩, ?_⟩
  rw [hid_upd]
  exact ex_hid e
theorem rv_mod {i j : Int} (h : 0 < j) : RV (rI (fun _ j => 0 < j) fun i j => .int (i % j)) (.int i) (.int j) H (.int (i % j)) := fun H1 _ _ q => ⟨i, j, rfl, rfl, h, q H1 (Ex.refl H1)⟩
theorem rv_mul {i j : Int} (h : CMul i j) : RV (rI CMul fun i j => .int (i * j)) (.int i) (.int j) H (.int (i * j)) := fun H1 _ _ q => ⟨i, j, rfl, rfl, h, q H1 (Ex.refl H1)⟩
theorem rv_pow {i j : Int} (h : CPow i j) : RV (rI CPow fun i j => .int (i ^ j.toNat)) (.int i) (.int j) H (.int (i ^ j.toNat)) := fun H1 _ _ q => ⟨i, j, rfl, rfl, h, q H1 (Ex.refl H1)⟩
theorem rv_add {i j : Int} : RV (rI0 fun i j => .int (i + j)) (.int i) (.int j) H (.int (i + j)) := rv_I0
theorem ev_abs {i : Int} (ha : Ev ta σ H (.int i)) : Ev (tCB (fun xs H Q => ∃ i, xs = [.int i] ∧ Q (.int (if i < 0 then -i else i)) H) (tCons ta tNil)) σ H (.int (if i < 0 then -i else i)) :=
  ev_cb (ea_cons ha ea_nil) fun H1 _ _ q => ⟨i, rfl, q H1 (Ex.refl H1)⟩
theorem ev_lx {p : Addr} {xs : List V} {j : Nat} (ha : Ev ta σ H (.ref p)) (hb : Ev tb σ H (.int (j : Int))) (h : SqL K H p xs) (hj : xs[j]? = some v) : Ev (tOp (rIxL K) ta tb) σ H v := ev_op ha hb (rv_ixL h (atI_nat hj))
/-- a new bag -/
def spBag (K : PySem.W.Frag) : Sp := fun vs H Q _ => ∃ (a : Addr) (ns : List Int) (k : Nat), vs = [.ref a, .int (k : Int)] ∧ SqL K H a (ns.map V.int) ∧ k ≤ 1000 ∧ ∀ b H', H b = none → Ex H H' → Bag H' b → Q (.ref b) H'
end
end Tc
namespace Tc
open PySem L2 Evl
section
variable {K : PySem.W.Frag} {σ : L2.St} {H : Hp} {ta tb tc te : TE} {t : TT} {x y z v : V} {d : PyData}
theorem et_yes : EvT tYes σ H true := fun H1 _ _ q => q H1 (Ex.refl H1)
/-- two rising lists of the same members are one -/
theorem rising_one : ∀ (a b : List Int), a.Pairwise (· < ·) → b.Pairwise (· < ·) → (∀ k, k ∈ a ↔ k ∈ b) → a = b
  | [], [], _, _, _ => rfl
  | [], y :: b, _, _, h => absurd ((h y).mpr List.mem_cons_self) (by simp)
  | x :: a, [], _, _, h => absurd ((h x).mp List.mem_cons_self) (by simp)
  | x :: a, y :: b, ha, hb, h => by
    obtain ⟨a1, a2⟩ := List.pairwise_cons.mp ha
    obtain ⟨b1, b2⟩ := List.pairwise_cons.mp hb
    have e : x = y := by
      rcases List.mem_cons.mp ((h x).mp List.mem_cons_self) with e | m
      · exact e
      · rcases List.mem_cons.mp ((h y).mpr List.mem_cons_self) with e | m2
        · exact e.symm
        · have p1 := b1 x m
          have p2 := a1 y m2
          omega
    subst e
    refine congrArg (x :: ·) (rising_one a b a2 b2 fun k => ⟨fun m => ?_, fun m => ?_⟩)
    · rcases List.mem_cons.mp ((h k).mp (List.mem_cons_of_mem _ m)) with e | m2
      · have := a1 k m
        omega
      · exact m2
    · rcases List.mem_cons.mp ((h k).mpr (List.mem_cons_of_mem _ m)) with e | m2
      · have := b1 k m
        omega
      · exact m2
end
end Tc
/-! data made beside a bag of draws -/
namespace Tc
open PySem L2 Evl
section
variable {b : Addr} {K : PySem.W.Frag} {σ : L2.St} {H : Hp} {ta tb tc te : TE} {t : TT} {x y z v : V} {d : PyData}
theorem dpt_new {p : Addr} {vs : List V} {ds : List PyData} (hb : Bag H b) (hp : H p = none) (h : DpAll K (hid b H) vs ds) : Dp K (hid b (upd H p (.tup vs))) (.ref p) (.tuple ds) :=
  .tup (st_of (hid_at upd_same (hb.ne hp))) (dps_same (Fr.new hb hp).sm _ _ h)
end
end Tc
namespace Tc
open PySem L2 Evl
end Tc
namespace Tc
open PySem L2 Evl
theorem same_hid {D : Addr} {H H' : Hp} (e : Same H H') : Same (hid D H) (hid D H') := fun a u h => by
  have n : a ≠ D := fun z => by
    rw [z, hid_self] at h
    cases h
  exact hid_at (e a u (hid_same D H a u h)) n
theorem hid_upd2 {b D : Addr} (H : Hp) (o : HO) (n : D ≠ b) : hid D (hid b (upd H D o)) = hid D (hid b H) := by
  funext a
  unfold hid
  by_cases h : a = D
  · rw [if_pos h, if_pos h]
  · rw [if_neg h, if_neg h]
    by_cases h2 : a = b
    · rw [if_pos h2, if_pos h2]
    · rw [if_neg h2, if_neg h2, upd_ne h]
/-- a list at D that collects data, beside a bag at b -/
structure Col (b : Addr) (K : PySem.W.Frag) (g : PyData → Bool) (H : Hp) (D : Addr) (i : Nat) (H' : Hp) : Prop where
  fr : Fr b H H'
  new : H D = none
  ne : D ≠ b
  ex : ∃ (vs : List V) (ds : List PyData), H' D = some (.lst vs) ∧ DpAll K (hid D (hid b H')) vs ds ∧ vs.length ≤ i ∧ ∀ d ∈ ds, g d = true
section
variable {b D : Addr} {K : PySem.W.Frag} {g : PyData → Bool} {H H' H4 : Hp} {i : Nat} {y : V} {d : PyData}
theorem Col.push (c : Col b K g H D i H') (f : Fr b H' H4) (hy : Dp K (hid D (hid b H4)) y d) (hg : g d = true) (hi : i < 10000) : ∃ acc, H4 D = some (.lst acc) ∧ acc.length < sizeLine ∧ Col b K g H D (i + 1) (upd H4 D (.lst (acc ++ [y]))) := by
  obtain ⟨vs, ds, h1, h2, h3, h4⟩ := c.ex
  refine ⟨vs, f.at h1 c.ne, sz_lt (by omega), Fr.mut (c.fr.trans f) c.new c.ne, c.new, c.ne, vs ++ [y], ds ++ [d], upd_same, ?_, by simp; omega, fun e m => ?_⟩
  · rw [hid_upd2 _ _ c.ne]
    exact dps_app (dps_same (same_hid f.sm) _ _ h2) (.cons hy .nil)
  · rcases List.mem_append.mp m with m | m
    · exact h4 e m
    · rw [List.mem_singleton.mp m]
      exact hg
theorem Col.at (c : Col b K g H D i H') : H' D ≠ none := by
  obtain ⟨vs, ds, h1, _⟩ := c.ex
  rw [h1]
  exact fun z => nomatch z
/-- tuple(..) of what was collected -/
theorem Col.tup {te : TE} {σ : L2.St} {Q : VK} {i : Nat} (h : ∀ Q' : VK, (∀ p H', Col b K g H p i H' → Q' (.ref p) H') → te σ H Q') (hz : i ≤ 1100)
    (q : ∀ v d H', Fr b H H' → Dp K (hid b H') v d → (∃ ds : List PyData, d = .tuple ds ∧ ds.length ≤ i ∧ ∀ d ∈ ds, g d = true) → Q v H') :
    tCB (fun xs H Q => ∃ p ys, xs = [.ref p] ∧ ((SqL K H p ys ∧ ∀ l, H l = none → Q (.ref l) (upd H l (.tup ys))) ∨ (SqT K H p ys ∧ Q (.ref p) H))) (tCons te tNil) σ H Q :=
  h _ fun p H' c => by
    obtain ⟨vs, ds, h1, h2, h3, h4⟩ := c.ex
    refine ⟨p, vs, rfl, .inl ⟨sq_of h1, fun l hl => q (.ref l) (.tuple ds) _ (c.fr.trans (Fr.new c.fr.bag hl)) (dpt_new c.fr.bag hl (dps_same (hid_same p _) _ _ h2)) ⟨ds, rfl, by rw [← dps_len h2]; exact h3, h4⟩⟩⟩
end
end Tc
namespace Tc
open PySem L2 Evl
end Tc
/-! data kept apart from a set of objects (the bag, lists under work) -/
namespace Tc
open PySem L2 Evl
open Classical in
noncomputable def cut (S : Addr → Prop) (H : Hp) : Hp := fun a => if S a then none else H a
theorem cut_in {S : Addr → Prop} {H : Hp} {a : Addr} (h : S a) : cut S H a = none := by
  unfold cut
  rw [if_pos h]
theorem cut_at {S : Addr → Prop} {H : Hp} {a : Addr} {o : HO} (h : H a = some o) (n : ¬ S a) : cut S H a = some o := by
  unfold cut
  rw [if_neg n]
  exact h
theorem cut_same (S : Addr → Prop) (H : Hp) : Same (cut S H) H := fun a o h => by
  by_cases n : S a
  · rw [cut_in n] at h
    cases h
  · unfold cut at h
    rw [if_neg n] at h
    exact h
theorem cut_out {S : Addr → Prop} {H : Hp} {a : Addr} {o : HO} (h : cut S H a = some o) : ¬ S a := fun n => by
  rw [cut_in n] at h
  cases h
/-- what is kept apart is there -/
structure Sok (S : Addr → Prop) (b : Addr) (H : Hp) : Prop where
  mem : S b
  old : ∀ a, S a → H a ≠ none
section
variable {S : Addr → Prop} {b : Addr} {K : PySem.W.Frag} {σ : L2.St} {H H' : Hp} {ta tb tc te : TE} {t : TT} {x y z v : V} {d : PyData}
theorem Sok.fr (h : Sok S b H) (f : Fr b H H') : Sok S b H' := ⟨h.mem, fun a m => by
  by_cases e : a = b
  · obtain ⟨x, y, hb, _⟩ := f.bag
    rw [e, hb]
    exact fun z => nomatch z
  · cases h1 : H a with
    | none => exact absurd h1 (h.old a m)
    | some o =>
      rw [f.at h1 e]
      exact fun z => nomatch z⟩
theorem Sok.new (h : Sok S b H) {p : Addr} (hp : H p = none) : ¬ S p := fun m => h.old p m hp
theorem cut_sm (h : S b) (f : Fr b H H') : Same (cut S H) (cut S H') := fun a o e => by
  have n := cut_out e
  exact cut_at (f.at (cut_same S H a o e) fun z => n (z ▸ h)) n
/-- the objects of S may change -/
theorem cut_upd {p : Addr} {o : HO} (h : S p) : cut S (upd H p o) = cut S H := by
  funext a
  unfold cut
  by_cases m : S a
  · rw [if_pos m, if_pos m]
  · rw [if_neg m, if_neg m, upd_ne (fun z : a = p => m (z ▸ h))]
end
end Tc
namespace Tc
open PySem L2 Evl
end Tc
namespace Tc
open PySem L2 Evl
section
variable {S : Addr → Prop} {b : Addr} {K : PySem.W.Frag} {σ : L2.St} {H H' : Hp} {ta tb tc te : TE} {t : TT} {x y z v : V} {d : PyData}
/-- one more object kept apart -/
def also (S : Addr → Prop) (l : Addr) : Addr → Prop := fun a => S a ∨ a = l
end
end Tc
/-! data beside texts: ==, not in -/
namespace Tc
open PySem L2 Evl
theorem inV_str (z : Str) : ∀ ss : List Str, inV (.str z) (ss.map V.str) = decide (z ∈ ss)
  | [] => rfl
  | s :: ss => by
    have ih := inV_str z ss
    unfold inV at ih ⊢
    rw [List.map_cons, List.any_cons, ih]
    show ((s == z) || decide (z ∈ ss)) = decide (z ∈ s :: ss)
    by_cases h : s = z
    · subst h
      simp
    · have h2 : ¬ z = s := fun e => h e.symm
      simp [h, h2]
end Tc
namespace Tc
open PySem L2 Evl
end Tc
namespace Tc
open PySem L2 Evl
/-- a list at D that collects data, one a turn, beside a bag at b, apart from S -/
structure ColE (S : Addr → Prop) (b : Addr) (K : PySem.W.Frag) (g : PyData → Bool) (H : Hp) (D : Addr) (i : Nat) (H' : Hp) : Prop where
  fr : Fr b H H'
  sok : Sok S b H
  new : H D = none
  ne : D ≠ b
  ex : ∃ (vs : List V) (ds : List PyData), H' D = some (.lst vs) ∧ DpAll K (cut (also S D) H') vs ds ∧ vs.length = i ∧ ∀ d ∈ ds, g d = true
section
variable {S : Addr → Prop} {b D : Addr} {K : PySem.W.Frag} {g : PyData → Bool} {H H' H4 : Hp} {i : Nat} {y : V} {d : PyData}
theorem ColE.push (c : ColE S b K g H D i H') (f : Fr b H' H4) (hy : Dp K (cut (also S D) H4) y d) (hg : g d = true) (hi : i < 10000) : ∃ acc, H4 D = some (.lst acc) ∧ acc.length < sizeLine ∧ ColE S b K g H D (i + 1) (upd H4 D (.lst (acc ++ [y]))) := by
  obtain ⟨vs, ds, h1, h2, h3, h4⟩ := c.ex
  refine ⟨vs, f.at h1 c.ne, sz_lt (by omega), Fr.mut (c.fr.trans f) c.new c.ne, c.sok, c.new, c.ne, vs ++ [y], ds ++ [d], upd_same, ?_, by simp; omega, fun e m => ?_⟩
  · rw [cut_upd (.inr rfl)]
    exact dps_app (dps_same (cut_sm (.inl c.sok.mem) f) _ _ h2) (.cons hy .nil)
  · rcases List.mem_append.mp m with m | m
    · exact h4 e m
    · rw [List.mem_singleton.mp m]
      exact hg
theorem ColE.at (c : ColE S b K g H D i H') : H' D ≠ none := by
  obtain ⟨vs, ds, h1, _⟩ := c.ex
  rw [h1]
  exact fun z => nomatch z
/-- a list of keys at l -/
structure KeysAt (b : Addr) (H : Hp) (l : Addr) (ks : List Int) : Prop where
  ne : l ≠ b
  h : H l = some (.lst (ks.map V.int))
  bd : ∀ k ∈ ks, 0 ≤ k ∧ k < 1000
  few : ks.length ≤ 1000
  some : 0 < ks.length
theorem KeysAt.fr {l : Addr} {ks : List Int} (k : KeysAt b H l ks) (f : Fr b H H') : KeysAt b H' l ks := ⟨k.ne, f.at k.h k.ne, k.bd, k.few, k.some⟩
end
end Tc
/-! a set comprehension with two for's, its members ints -/
namespace Tc
open PySem PySem.Spec PyProof.Rows L2
end Tc
/-! name = {dict comprehension}; tuple(list) as a tuple without a dict of its own; dict(tuple of pairs) -/
namespace Tc
open PySem PySem.Spec PyProof.Rows L2
section
variable {X : Cx}
/-- a tuple that is known to have no dict of its own -/
def PT (H : Hp) (a : Addr) (xs : List V) : Prop := ∃ o : Obj, H a = some (.frz o (.tup xs)) ∧ o.dict = none
theorem PT.st {K : PySem.W.Frag} {H : Hp} {a : Addr} {xs : List V} (h : PT H a xs) : SqT K H a xs := let ⟨o, x, _⟩ := h; .inl (.inr ⟨o, x⟩)
end
end Tc
/-! a dict of worths by keys, and what changes do to it -/
namespace Tc
open PySem PySem.Spec PyProof.Rows L2
structure DI (ks : List Int) (kvs : List (Key × V)) (f : Int → Option Int) : Prop where
  nd : (kvs.map (·.1)).Nodup
  inn : ∀ p ∈ kvs, ∃ k ∈ ks, p.1 = Sum.inl k
  val : ∀ k, valV kvs (Sum.inl k) = (f k).map V.int
theorem DI.nil {ks : List Int} : DI ks [] fun _ => none := ⟨List.nodup_nil, fun p m => (by cases m), fun k => rfl⟩
theorem len_sub {α : Type} [DecidableEq α] : ∀ {l m : List α}, l.Nodup → (∀ x ∈ l, x ∈ m) → l.length ≤ m.length
  | [], _, _, _ => Nat.zero_le _
  | x :: l, m, hn, hs => by
    obtain ⟨h1, h2⟩ := List.nodup_cons.mp hn
    have hx : x ∈ m := hs x List.mem_cons_self
    have := len_sub (l := l) (m := m.erase x) h2 fun y hy => (List.mem_erase_of_ne (a := y) (b := x) fun (e : y = x) => h1 (e ▸ hy)).mpr (hs y (List.mem_cons_of_mem _ hy))
    rw [List.length_erase_of_mem hx] at this
    have hp := List.length_pos_of_mem hx
    rw [List.length_cons]
    omega
theorem inls : ∀ {l : List Key}, (∀ x ∈ l, ∃ k, x = Sum.inl k) → ∃ js : List Int, l = js.map Sum.inl
  | [], _ => ⟨[], rfl⟩
  | x :: l, h => by
    obtain ⟨k, rfl⟩ := h x List.mem_cons_self
    obtain ⟨js, rfl⟩ := inls fun y m => h y (List.mem_cons_of_mem _ m)
    exact ⟨k :: js, rfl⟩
theorem valV_memI {kvs : List (Key × V)} {k : Key} : k ∈ kvs.map (·.1) ↔ (valV kvs k).isSome = true := by
  rw [← valV_any, List.any_eq_true, List.mem_map]
  constructor
  · rintro ⟨p, m, e⟩
    exact ⟨p, m, decide_eq_true e⟩
  · rintro ⟨p, m, e⟩
    exact ⟨p, m, of_decide_eq_true e⟩
theorem DI.keys {ks : List Int} {kvs : List (Key × V)} {f : Int → Option Int} (h : DI ks kvs f) : ∃ js : List Int, kvs.map (·.1) = js.map Sum.inl ∧ js.Nodup ∧ (∀ k, k ∈ js ↔ (f k).isSome = true) ∧ js.length ≤ ks.length := by
  obtain ⟨js, e⟩ := inls (l := kvs.map (·.1)) fun x m => by
    obtain ⟨p, hp, rfl⟩ := List.mem_map.mp m
    obtain ⟨k, _, e⟩ := h.inn p hp
    exact ⟨k, e⟩
  have nd : js.Nodup := by
    have := h.nd
    rw [e] at this
    exact (List.pairwise_map.mp this).imp fun {a b} z e => z (congrArg _ e)
  have mem : ∀ k, k ∈ js ↔ (f k).isSome = true := fun k => by
    have := valV_memI (kvs := kvs) (k := .inl k)
    rw [e, h.val, Option.isSome_map] at this
    rw [← this, List.mem_map]
    constructor
    · exact fun m => ⟨k, m, rfl⟩
    · rintro ⟨j, m, z⟩
      cases z
      exact m
  refine ⟨js, e, nd, mem, len_sub nd fun x hx => ?_⟩
  have : (Sum.inl x : Key) ∈ kvs.map (·.1) := e ▸ List.mem_map.mpr ⟨x, hx, rfl⟩
  obtain ⟨p, hp, e'⟩ := List.mem_map.mp this
  obtain ⟨k, hk, e''⟩ := h.inn p hp
  cases (e'.symm.trans e'' : (Sum.inl x : Key) = Sum.inl k)
  exact hk
theorem DI.len {ks : List Int} {kvs : List (Key × V)} {f : Int → Option Int} (h : DI ks kvs f) : kvs.length ≤ ks.length := by
  obtain ⟨js, e, _, _, l⟩ := h.keys
  have := congrArg List.length e
  rw [List.length_map, List.length_map] at this
  omega
/-- the keys that have a worth, rising -/
def KeysOf (f : Int → Option Int) (js : List Int) : Prop := js.Pairwise (· < ·) ∧ ∀ k, k ∈ js ↔ (f k).isSome = true
theorem KeysOf.one {f : Int → Option Int} {a b : List Int} (h : KeysOf f a) (h' : KeysOf f b) : a = b := rising_one a b h.1 h'.1 fun k => (h.2 k).trans (h'.2 k).symm
end Tc
/-! changes, entries and logs as data; promises of what the program makes of them -/
namespace Tc
open PySem L2 Evl
def goodCh (ks : List Int) : PyData → Bool
  | .tuple [.str s, .int k] => decide (s = "drop") && decide (k ∈ ks)
  | .tuple [.str s, .int k, .int w] => decide (s = "put") && (decide (k ∈ ks) && decide (0 ≤ w ∧ w < 1000))
  | _ => false
def goodEn (ks : List Int) : PyData → Bool
  | .tuple [.str s, .tuple cs] => decide (s = "group") && cs.all (goodCh ks)
  | .tuple [.str s, .int _, .int _] => !decide (s = "group") && PyData.strOk s
  | _ => false
def pairD (r : Int × Int) : PyData := .tuple [.int r.1, .int r.2]
def rowsD (rs : List (Int × Int)) : PyData := .tuple (rs.map pairD)
section
variable {K : PySem.W.Frag} {H H' : Hp} {D : Addr} {kvs : List (Key × V)}
/-- all but the dict at D stays -/
def Bar (D : Addr) (H H' : Hp) : Prop := ∀ a o, a ≠ D → H a = some o → H' a = some o
theorem Bar.refl (D : Addr) (H : Hp) : Bar D H H := fun _ _ _ h => h
theorem Bar.trans {H1 H2 : Hp} (a : Bar D H H1) (b : Bar D H1 H2) : Bar D H H2 := fun x o n h => b x o n (a x o n h)
theorem Bar.ex (e : Ex H H') : Bar D H H' := fun x o _ h => e x o h
/-- a table told by the program: a tuple without a dict, of pairs -/
def TP (K : PySem.W.Frag) (H : Hp) (p : Addr) (rs : List (Int × Int)) : Prop := ∃ xs, PT H p xs ∧ DpAll K H xs (rs.map pairD)
theorem TP.dp {p : Addr} {rs : List (Int × Int)} (h : TP K H p rs) : Dp K H (.ref p) (rowsD rs) := let ⟨_, a, b⟩ := h; .tup a.st b
end
end Tc
/-! tuples of leaves and tuples stay while a list is changed -/
namespace Tc
open PySem L2 Evl
def nl : Nat → PyData → Bool
  | _, .list _ => false
  | 0, .tuple _ => false
  | n + 1, .tuple ds => ds.all (nl n)
  | _, _ => true
section
variable {K : PySem.W.Frag} {H H' : Hp} {b : Addr} {bs : List V}
theorem dps_each : ∀ {ds : List PyData} {vs : List V}, (∀ d ∈ ds, ∀ v, Dp K H v d → Dp K H' v d) → DpAll K H vs ds → DpAll K H' vs ds
  | _, _, _, .nil => .nil
  | _, _, f, .cons h t => .cons (f _ List.mem_cons_self _ h) (dps_each (fun d m => f d (List.mem_cons_of_mem _ m)) t)
theorem nl_ch {ks : List Int} {d : PyData} (h : goodCh ks d = true) : nl 1 d = true := by
  unfold goodCh at h
  split at h
  · rfl
  · rfl
  · cases h
theorem nl_en {ks : List Int} {d : PyData} (h : goodEn ks d = true) : nl 3 d = true := by
  unfold goodEn at h
  split at h
  · rename_i s cs
    rw [Bool.and_eq_true, List.all_eq_true] at h
    show (nl 2 (.str s) && (nl 2 (.tuple cs) && true)) = true
    rw [show nl 2 (.tuple cs) = true from List.all_eq_true.mpr fun d m => nl_ch (h.2 d m)]
    rfl
  · rfl
  · cases h
theorem Bag.lst (h : Bag H b) : ∃ bs, H b = some (.lst bs) := let ⟨_, _, e, _⟩ := h; ⟨_, e⟩
end
end Tc
namespace Tc
open PySem L2 Evl
/-- no tuple stands at b -/
def NT (H : Hp) (b : Addr) : Prop := (∀ xs, H b ≠ some (.tup xs)) ∧ ∀ o u, H b ≠ some (.frz o u)
section
variable {K : PySem.W.Frag} {H H' : Hp} {b : Addr}
theorem NT.set {w : World} {S : Int → Bool} {n : Nat} (h : H b = some (SetO w b S n)) : NT H b := by
  refine ⟨fun xs e => ?_, fun o u e => ?_⟩ <;> · rw [h] at e
                                                 cases e
end
end Tc
/-! enumerate(tuple), enumerate(tuple, start=k) -/
namespace Tc
open PySem PySem.Spec PyProof.Rows L2
/-- how the counter at e and the tuple's iterator at it stand -/
def Cnt (a e it : Addr) (k : Int) (i : Nat) (h : Heap) : Prop := (∃ old, IsEnum h e it (k + (i : Int)) old) ∧ h.IsTupleIter it a i ∧ e ≠ it
theorem Cnt.apart {a e it : Addr} {k : Int} {i : Nat} {h : Heap} {items : Array Value} (c : Cnt a e it k i h) (t : IsTup h a items) : a ≠ it ∧ e ∉ [it, a] := by
  obtain ⟨⟨old, he⟩, ⟨o, ho, hc, _⟩, ne⟩ := c
  obtain ⟨p, hp, pc, _⟩ := t
  refine ⟨fun z => ?_, fun m => ?_⟩
  · subst z
    cases hp.symm.trans ho
    rw [pc] at hc
    exact absurd hc (by decide)
  · rcases List.mem_cons.mp m with z | z
    · exact ne z
    · obtain rfl := List.mem_singleton.mp z
      cases hp.symm.trans he
      exact absurd (show Value.type "enumerate" = Value.type "tuple" from pc) (by decide)
end Tc
/-! enumerate(tuple) from 0 -/
namespace Tc
open PySem PySem.Spec PyProof.Rows L2
end Tc
/-! sorted(tuple of ints) -/
namespace Tc
open PySem PySem.Spec PyProof.Rows L2
end Tc
/-! sorted(dict of int keys), of any number -/
namespace Tc
open PySem PySem.Spec PyProof.Rows L2
end Tc
/-! an exception's own __init__ that says super().__init__(..) -/
namespace Tc
open PySem PySem.Spec PyProof.Rows L2
section
variable {X : Cx} {pins : List (Addr × Obj)} {σ : L2.St} {H : Hp} {s : Shared} {A : Around} {E : Value → Shared → Prop} {a C u : Addr}
/-- the bound ValueError.__init__ called: nothing of it is told -/
theorem wrap_call {us : List Value} {Q : Value → Shared → Prop} (T : OexC X.K C) (I : Inv X pins σ H s) (e : H a = some (exo a C none)) (hu : s.heap.get? u = some (PySem.W.kxs_mw "ValueError.__init__" a)) (hl : us.length ≤ sizeLine) (h : ∀ s', Inv X pins σ H s' → Q .none s') :
    wpAny (model X.prog X.w) A (call (.ref u) us) Q E s := by
  obtain ⟨cn, cq, cN, cb, cm, c1, c2, c3, c4, c5, j0, j1, j2, j3, j5, hC, hbm⟩ := T.cls
  obtain ⟨t1, ho⟩ := exo_at I.hok e
  obtain ⟨hp, g, d, t, os⟩ := s
  have fin : ∀ h', (∀ b o, b ≠ a → hp.get? b = some o → h'.get? b = some o) → h'.get? a = some (PySem.W.excObj C hp.objs.size none .none) → Q .none ⟨h', g, d, t, os⟩ := fun h' k hx => by
    have J := I.write (x := a) (e := a) (o := exo a C none) (t' := t) (e ▸ True.intro) (.inl rfl) k ⟨_, hx⟩ (exo_ok hx)
    have still : upd H a (exo a C none) = H := by
      funext b
      by_cases hb : b = a
      · rw [hb, upd_same, e]
      · rw [upd_ne hb]
    rw [still] at J
    exact h _ J
  refine wpAny_call (codeAny_of_tree (show wpAny _ A.in1 (callAny (.ref u) ⟨us, []⟩) _ _ _ from ?_))
  simp only [callAny]
  refine wpAny_bind (wpAny_load hu ?_)
  have w1 : (Value.type "method-wrapper" == Value.type "method" || Value.type "method-wrapper" == Value.type "builtin_function_or_method" || Value.type "method-wrapper" == Value.type "method-wrapper") = true := by decide
  simp only [PySem.W.kxs_mw, w1, if_true]
  refine PySem.W.KFB.if_so (by decide) (wpAny_bind (PySem.W.check_bound_init PySem.F.excBase_ValueError.toExcCallFacts (I.kIn _ _ hC) ho rfl (wpAny_bind (wpAny_pure (wpAny_pure ⟨plainId_quiet PySem.F.excBase_ValueError.init.plain _, codeAny_builtin PySem.F.excBase_ValueError.initEntry ?_⟩)))))
  exact PySem.W.exc_init_tree (cls := .ref C) (t0 := t1) (dv := none) (c2 := .none) (c3 := .none) (b4 := .bool false) ho hl fun h' k hx _ => fin h' k hx
end
end Tc
namespace Tc
open PySem PySem.Spec PyProof.Rows L2
/-- a bound __init__, as it stands for a moment -/
def mwO (u a : Addr) : HO := .ext fun h => h.get? u = some (PySem.W.kxs_mw "ValueError.__init__" a)
/-- what is known of the def, its code, its class -/
structure SupX (X : Cx) (C f cc cda : Addr) (me : Str) : Prop where
  ks : Gl X "super"
  kc : X.env.kindOf "__class__" = some .free
  fu : X.env.func = some f
  co : X.env.code = .ref cda
  fn : ∃ (of : Obj) (fd : FuncData) (ar : Arg), X.K.lookup f = some of ∧ of.data = .func fd ∧ (fd.params.posonlyargs ++ fd.params.args).head? = some ar ∧ ar.arg = me
  cd : ∃ (oc : Obj) (vs : Array Value) (file : Str) (tf : Tok), X.K.lookup cda = some oc ∧ oc.data = .fields vs ∧ vs[2]? = some (.str file tf) ∧ ((X.prog.main.file : Str) == file) = true
  top : (X.prog.main.scope.names.lookup ("super" : Str)).isSome = false
  mg : X.mg "super" = none
  ce : X.env.cells.lookup ("__class__" : Str) = some cc
  cv : ∃ ol : Obj, X.K.lookup cc = some ol ∧ ol.data = .cell (some (.ref C))
  lo : X.env.scope.names.lookup me = some .local
  cl : ∃ cdC : ClassData, PySem.W.clsIn X.K C = some cdC
  mr : PySem.W.mroIn X.K C (.ref C) = some true
  op : PySem.W.nsIn X.K cStatics "thirdparty.any" = some none
  su : PySem.W.ks_superIn X.K C C "__init__" = some (some (.builtin "ValueError.__init__"))
  ve : PySem.W.subIn X.K (.ref C) (.type "ValueError") = some true
theorem mwO_ok {P : Program} {w : World} {H : Hp} {h : Heap} {u a : Addr} (hu : h.get? u = some (PySem.W.kxs_mw "ValueError.__init__" a)) : ObjOk P w H h u (mwO u a) := ⟨hu, ⟨_, hu⟩, fun h1 h2 z k => k _ z⟩
theorem boot_sup : bootBuiltins "super" = some (.type "super") := PyProof.Rows.Boot.«super»
section
variable {X : Cx} {pins : List (Addr × Obj)} {σ : L2.St} {H : Hp} {s : Shared} {a C f cc cda : Addr} {me : Str}
set_option maxHeartbeats 2000000 in
/-- super().__init__(e) -/
theorem sup_init {body : List Stmt} {p0 p1 p2 pos : Pos} {e : Expr} {ta : TA} {i : Nat} {Q : VK} (Z : SupX X C f cc cda me) (T : OexC X.K C) (I : Inv X pins σ H s) (ea : H a = some (exo a C none)) (hi : X.N[i]? = some me) (hs : σ[i]? = some (some (.ref a))) (ha : PA X [e] ta)
    (hta : ∀ u, H u = none → ta σ (upd H u (mwO u a)) fun vs H1 => H1 = upd H u (mwO u a) ∧ vs.length ≤ 1000 ∧ Q .non H1)
    {pl : Sem Bool} (hc : eval (.Call (.Attribute (.Call (.Name "super" p0) [] [] p1) "__init__" p2) [e] [] pos) X.env = (do
      let ov ← attributeBase (.Call (.Name "super" p0) [] [] p1) "__init__" X.env (eval (.Call (.Name "super" p0) [] [] p1) X.env)
      standAt p2.atName
      let (g, g1) ← holding [ov] (getMethod ov "__init__" pl)
      callWith pos g g1 (backTo pos (starEach [e] X.env)) []))
    (he : starEach [e] X.env = (false, eval e X.env) :: starEach [] X.env := by rfl) :
    PySem.wpAt (model X.prog X.w) X.A (.func body X.env) (eval (.Call (.Attribute (.Call (.Name "super" p0) [] [] p1) "__init__" p2) [e] [] pos) X.env) (EP X pins σ Q) X.xe s := by
  obtain ⟨of, fd, ar, lf, hfd, hp, ear⟩ := Z.fn
  obtain ⟨oc, vs, file, tf, lc, hoc, hvs, hfile⟩ := Z.cd
  obtain ⟨ol, lo, hol⟩ := Z.cv
  obtain ⟨cdC, hcC⟩ := Z.cl
  subst ear
  have K1 := I.kIn
  obtain ⟨t1, hx⟩ := exo_at I.hok ea
  have In1 : PySem.W.InstAt s.heap a (PySem.W.excObj C t1 none .none) C none := ⟨hx, rfl, rfl, trivial⟩
  obtain ⟨oD, hD1, hD2⟩ : ∃ oD, s.heap.get? C = some oD ∧ oD.data = .cls cdC := by
    unfold PySem.W.clsIn at hcC
    split at hcC
    · rename_i ho
      cases hcC
      exact ⟨_, K1 _ _ ho, rfl⟩
    · cases hcC
  obtain ⟨hp', g, d, t, os⟩ := s
  refine PySem.ks_wpAt_MethodCall (pl := pl) (PySem.ks_wpAt_super_base Z.ks Z.kc (by decide) Z.fu (K1 _ _ lf) hfd hp Z.co (K1 _ _ lc) hoc hvs hfile Z.top ?_) hc
  obtain ⟨mb, b1, b2⟩ := I.mod.blt
  refine PySem.W.ks_loadName_global I.ok.kind Z.ks (Calls.loadGlobal_builtin (by rw [I.ok.glob]; exact I.mod.glob.keeps I.bk) Z.mg (by rw [I.ok.blt]; exact b1.keeps I.bk) ((b2 "super" (by decide)).trans boot_sup) ⟨rfl, ?_⟩)
  refine wpAny_loadName_free I.ok.kind Z.kc Z.ce ⟨ol, K1 _ _ lo, hol⟩ ?_
  obtain ⟨m, hn, hl⟩ := I.loc
  obtain ⟨uv, r, l⟩ := hl i ar.arg (.ref a) hi hs (.inl Z.lo)
  obtain rfl : uv = Value.ref a := r
  rcases l with ⟨hk, hm⟩ | ⟨hk, _⟩
  · refine wpAny_loadName_local I.ok.kind hk hn hm (PySem.ks_wpAny_isType_cls hD1 hD2 ⟨rfl, PySem.ks_wpAny_call_super hD1 hD2 hx rfl (fun c e => by cases e) (PySem.W.looks_mroIn K1 Z.mr) fun h' hso kp => ?_⟩)
    have I2 : Inv X pins σ H ⟨h', g, d, t, os⟩ := I.kept (t' := t) kp
    have K2 := I2.kIn
    have In2 : PySem.W.InstAt h' a (PySem.W.excObj C t1 none .none) C none := ⟨kp _ _ hx, rfl, rfl, trivial⟩
    have hsu := Z.su
    unfold PySem.W.ks_superIn at hsu
    rw [hcC] at hsu
    refine PySem.W.kxs_getMethod PySem.W.kxs_ValueError hso (PySem.W.looks_opaque K2 Z.op) (l₀ := cdC.mro) (fun A' Q' E' s' k' q' => wpAny_bind ((PySem.W.looks_clsIn K2 hcC) A' _ E' s' k' (wpAny_pure q'))) rfl K2 hsu (In2.type.andThen (PySem.W.looks_subIn K2 Z.ve)) (PySem.W.ks_ne K2 In2 hcC) (by decide) ?_
    have nu : H h'.objs.size = none := I2.hok.fresh (Nat.le_refl _)
    have I3 : Inv X pins σ (upd H h'.objs.size (mwO h'.objs.size a)) ⟨h'.push (PySem.W.kxs_mw "ValueError.__init__" a), g, d, t + 1, os⟩ := I2.laid (a := h'.objs.size) (t' := t + 1) (fun b o z => Heap.get?_push_of_some _ z) (Nat.le_refl _) (mwO_ok (Heap.get?_push_size _ rfl))
    generalize h'.objs.size = u at nu I3 ⊢
    generalize h'.push (PySem.W.kxs_mw "ValueError.__init__" a) = h3 at I3 ⊢
    have au : a ≠ u := fun z => by
      rw [← z, ea] at nu
      cases nu
    rw [he]
    refine PySem.W.kxs_callWith (i := "ValueError.__init__") (x := a) rfl (Calls.evalArgs_plain ?_)
    have run := ha.run pos pins _ σ _ _ I3 (hta u nu)
    rw [he] at run
    refine thn run fun us s4 ⟨vs4, H4, I4, rv, eH, hlen, q⟩ => ?_
    subst eH
    have hu4 : s4.heap.get? u = some (PySem.W.kxs_mw "ValueError.__init__" a) := (show ObjOk X.prog X.w _ _ u (mwO u a) from I4.hok u _ upd_same).1
    have hl4 : us.length ≤ sizeLine := by
      rw [← Paired.length rv, sizeLine_eq]
      omega
    exact ⟨hu4, wrap_call T I4 (by rw [upd_ne au]; exact ea) hu4 hl4 fun s' J => ⟨.non, _, J, rfl, q⟩⟩
  · have zl : X.env.kindOf ar.arg = some .local := Z.lo
    rcases hk with hk | hk
    · rw [zl] at hk
      cases hk
    · rw [zl] at hk
      cases hk
end
end Tc
namespace Tc
open PySem PySem.Spec PyProof.Rows L2 NdefX
section
variable {CX : CXT} {P : Program} {w : World} {K : PySem.W.Frag} {mg : Str → Option Value} {base : Heap} {N ps : List Str} {f cc cda C : Addr} {k : Nat} {sp : Sp} {name qual : Str} {params : Arguments} {scope : Scope} {st1 st2 : Stmt} {dV kV doc pm ct oc : Value} {an od : Option Addr} {osl : Array (Option Value)}
/-- the def as a nested one, its one cell the class -/
abbrev xF (name qual : Str) (params : Arguments) (st1 st2 : Stmt) (scope : Scope) (cc cda : Addr) : NF := ⟨name, qual, params, [st1, st2], scope, [("__class__", cc)], cda⟩
set_option maxHeartbeats 2000000 in
/-- a def whose first row is super().__init__(e) -/
theorem fn_super {p0 p1 p2 pos pos' : Pos} {e : Expr} {me : Str} (lk : K.lookup f = some ⟨oc, od, .func (PySem.W.fnX name qual params [st1, st2] scope [("__class__", cc)] dV kV doc pm an (.ref cda) ct), osl⟩) (hcd : PySem.W.codeIn K (.ref cda) qual = true) (S : NScope N ps ["__class__"] scope)
    (len : ∀ vs H Q E, sp vs H Q E → vs.length = ps.length) (T : OexC K C) (ccK : ∃ ol : Obj, K.lookup cc = some ol ∧ ol.data = .cell (some (.ref C)))
    (hst : st1 = .Expr (.Call (.Attribute (.Call (.Name "super" p0) [] [] p1) "__init__" p2) [e] [] pos) pos') (h0 : N[0]? = some me)
    (hcall : ∀ env : Env, ∃ pl : Sem Bool, eval (.Call (.Attribute (.Call (.Name "super" p0) [] [] p1) "__init__" p2) [e] [] pos) env = (do
      let ov ← attributeBase (.Call (.Name "super" p0) [] [] p1) "__init__" env (eval (.Call (.Name "super" p0) [] [] p1) env)
      standAt p2.atName
      let (g, g1) ← holding [ov] (getMethod ov "__init__" pl)
      callWith pos g g1 (backTo pos (starEach [e] env)) []))
    (hstar : ∀ env : Env, starEach [e] env = (false, eval e env) :: starEach [] env)
    (hint : ∀ L : Addr, interactive (envF (xF name qual params st1 st2 scope cc cda) f L) = false)
    (hsw : ∀ L : Addr, swapsWith (.Call (.Attribute (.Call (.Name "super" p0) [] [] p1) "__init__" p2) [e] [] pos) none pos'.line (envF (xF name qual params st1 st2 scope cc cda) f L) = pure false)
    (hZ : ∀ (A : Around) (outer : List Env) (s : Shared) (H : Hp) (E : XK), SupX (ncx CX P w K mg base N (xF name qual params st1 st2 scope cc cda) f A outer s H E) C f cc cda me)
    (hbody : ∀ (A : Around) (outer : List Env) (s : Shared) (H : Hp) (vs : List V) (Q : VK) (E : XK), Room k (A.deeper (envF (xF name qual params st1 st2 scope cc cda) f s.heap.objs.size)) → sp vs H Q E →
      ∃ (a : Addr) (ta : TA) (t2 : TS), vs[0]? = some (.ref a) ∧ H a = some (exo a C none) ∧ PA (ncx CX P w K mg base N (xF name qual params st1 st2 scope cc cda) f A outer s H E) [e] ta ∧ PSs (ncx CX P w K mg base N (xF name qual params st1 st2 scope cc cda) f A outer s H E) [st2] t2 ∧
        ∀ u, H u = none → ta (startF N vs [some (.ref C)]) (upd H u (mwO u a)) fun ws H1 => H1 = upd H u (mwO u a) ∧ ws.length ≤ 1000 ∧ t2 { nx := fun _ H' => Q .non H', rt := Q } (startF N vs [some (.ref C)]) H1) :
    FnOk P w K mg base CX (k + 1) f (PySem.W.fnX name qual params [st1, st2] scope [("__class__", cc)] dV kV doc pm an (.ref cda) ct) ps sp := by
  refine ⟨len, fun A outer s H aa us vs Q E hr e0 hb r hsp => ?_⟩
  have hl := len _ _ _ _ hsp
  have KX : K.In s.heap := e0.mod.kin.keeps fun b o z => (e0.bs b o z).1
  have lim : s.heap.NoLimit := e0.mod.nolimit.keeps fun b o z => (e0.bs b o z).1
  refine PySem.ks_codeAny_call_defAt hr.depth (KX _ _ lk) rfl lim (PySem.W.codeRec_of KX hcd) rfl hb S.nocell (fun ⟨n, _⟩ hy => S.par n (List.of_mem_zip hy).1) (fun h₁ hns kp => ?_) S.co S.gen S.kind
  obtain ⟨ol, lo, hol⟩ := ccK
  have C1 : CellsAt (xF name qual params st1 st2 scope cc cda).cl ["__class__"] [some (.ref C)] s.heap H := by
    have only : ∀ {y : Str} {c : Addr}, ([("__class__", cc)] : List (Str × Addr)).lookup y = some c → y = ("__class__" : Str) ∧ c = cc := fun {y c} h => by
      by_cases z : y = ("__class__" : Str)
      · subst z
        rw [List.lookup_cons_self] at h
        exact ⟨rfl, (Option.some.inj h).symm⟩
      · rw [List.lookup_cons, show (y == ("__class__" : Str)) = false from beq_eq_false_iff_ne.mpr z] at h
        cases h
    have hb0 : base.get? cc = some ol := e0.mod.kin _ _ lo
    obtain ⟨hc1, hc2⟩ := e0.bs _ _ hb0
    have cell : s.heap.IsCell cc (some (.ref C)) := ⟨ol, hc1, hol⟩
    refine ⟨rfl, fun y c h => ?_, fun x y c h1 h2 => (only h1).1.trans (only h2).1.symm, fun i y h => ?_⟩
    · obtain ⟨_, rfl⟩ := only h
      exact ⟨hc2, _, cell⟩
    · cases i with
      | zero =>
        cases h
        exact ⟨cc, List.lookup_cons_self, fun v hv => by
          cases hv
          exact ⟨_, rfl, cell⟩⟩
      | succ i => cases h
  have I : Inv (ncx CX P w K mg base N (xF name qual params st1 st2 scope cc cda) f A outer s H E) [] (startF N vs [some (.ref C)]) H { s with heap := h₁, toks := s.toks + (ps.zip us).length } := inv_startN S hr.hd e0 hl r C1 hns kp
  obtain ⟨a, ta, t2, hv0, ea, ha, h2, hta⟩ := hbody A outer s H vs Q E (hr.deeper _) hsp
  subst hst
  have hs0 : (startF N vs [some (.ref C)])[0]? = some (some (.ref a)) := by
    unfold startF
    cases vs with
    | nil => cases hv0
    | cons v vs =>
      cases hv0
      rfl
  have fin : ∀ {s' : Shared} {σ' : L2.St} {H' : Hp} {v : V} {u : Value}, Inv (ncx CX P w K mg base N (xF name qual params (.Expr (.Call (.Attribute (.Call (.Name "super" p0) [] [] p1) "__init__" p2) [e] [] pos) pos') st2 scope cc cda) f A outer s H E) [] σ' H' s' → L2.RelV v u → Q v H' → CE outer P w H s Q u s' := fun {s' σ' H' v u} J rv q => ⟨v, H', J.os, J.bare, J.base, J.hok, rv, q⟩
  obtain ⟨pl, hc⟩ := hcall (envF (xF name qual params (.Expr (.Call (.Attribute (.Call (.Name "super" p0) [] [] p1) "__init__" p2) [e] [] pos) pos') st2 scope cc cda) f s.heap.objs.size)
  refine PySem.ks_wpAt_execs_cons (PySem.ks_wpAt_Expr_any (PySem.ks_wpAt_mono (sup_init (hZ A outer s H E) T I ea h0 hs0 ha (Q := fun _ H1 => t2 { nx := fun _ H' => Q .non H', rt := Q } (startF N vs [some (.ref C)]) H1) hta hc (hstar _)) (fun v s1 h1 => ?_) fun _ _ z => z) (hint _) (hsw _))
  obtain ⟨y, H1, I1, _, q1⟩ := h1
  refine PySem.wpAt_of_wpAny (wpAny_mono (h2.run [] _ _ H1 _ I1 q1) (fun fl s2 hs => ?_) fun e s2 hs => hs)
  cases fl with
  | ret u =>
    obtain ⟨z, σ', H', J, rv, q⟩ := hs
    exact fin J rv q
  | next =>
    obtain ⟨σ', H', J, q⟩ := hs
    exact fin (u := Value.none) (v := V.non) J rfl q
  | brk =>
    obtain ⟨_, _, _, q⟩ := hs
    exact False.elim q
  | cont =>
    obtain ⟨_, _, _, q⟩ := hs
    exact False.elim q
end
end Tc
/-! exceptions whose context is None: made, raised, let through -/
namespace Tc
open PySem PySem.Spec PyProof.Rows L2
end Tc
/-! defs called in an except suite, what is known of the exception handed to them -/
namespace Tc
open PySem PySem.Spec PyProof.Rows L2 L2H
section
variable {X : Cx}
/-- what is to be known of the class D -/
structure ExK (K : PySem.W.Frag) (D : Addr) : Prop where
  cl : (PySem.W.clsIn K D).isSome = true
  ga : PySem.W.findIn K (.ref D) "__getattribute__" = some (some (.builtin "BaseException.__getattribute__"))
  gt : PySem.W.findIn K (.ref D) "__getattr__" = some none
  sb : PySem.W.subIn K (.ref D) (.type "BaseException") = some true
  ca : PySem.W.findIn K (.ref D) "__class__" = some (some (.builtin "object.__class__"))
  cg : PySem.W.specialIn K (.builtin "object.__class__") "__get__" = some (some (.builtin "getset_descriptor.__get__"))
  tc : PySem.W.takesIn K (.builtin "object.__class__") = some true
  mo : PySem.W.mroIn K D (.type "object") = some true
end
end Tc
/-! a list comprehension in a def that an except suite calls -/
namespace Tc
open PySem PySem.Spec PyProof.Rows L2 L2H
end Tc
/-! a, b = x, y in an except suite -/
namespace Tc
open PySem PySem.Spec PyProof.Rows L2 L2H HotX
end Tc
/-! exceptions of the text: what is known of a class; raised, told apart by their kinds -/
namespace Tc
open PySem L2 L2H PyProof.Rows Evl NdefX
/-- an own __init__ that keeps a number as its field f -/
def spX1 (C : Addr) (f : Str) : Sp := fun vs H Q _ => ∃ (a : Addr) (i : Int), vs = [.ref a, .int i] ∧ H a = some (exo a C none) ∧ i.natAbs.log2 < 1920 ∧
  ∀ d H', H d = none → d ≠ a → H' a = some (exo a C (some d)) → H' d = some (exd d [(f, .int i)]) → (∀ b o, b ≠ a → H b = some o → H' b = some o) → Q .non H'
/-- what super() asks of a def of a class -/
structure SupF (P : Program) (K : PySem.W.Frag) (mg : Str → Option Value) (C cda : Addr) : Prop where
  cd : ∃ (oc : Obj) (vs : Array Value) (file : Str) (tf : Tok), K.lookup cda = some oc ∧ oc.data = .fields vs ∧ vs[2]? = some (.str file tf) ∧ ((P.main.file : Str) == file) = true
  top : (P.main.scope.names.lookup ("super" : Str)).isSome = false
  mg : mg "super" = none
  cl : ∃ cdC : ClassData, PySem.W.clsIn K C = some cdC
  mr : PySem.W.mroIn K C (.ref C) = some true
  op : PySem.W.nsIn K cStatics "thirdparty.any" = some none
  su : PySem.W.ks_superIn K C C "__init__" = some (some (.builtin "ValueError.__init__"))
  ve : PySem.W.subIn K (.ref C) (.type "ValueError") = some true
theorem text_fits {i : Int} {x : Str} (hx : x.length ≤ 1000) (h : i.natAbs.log2 < 1920) : (x ++ Str.ofString (toString i)).length ≤ sizeLine := by
  have e0 := int_text_length_le (k := 1920) (by decide) h
  have e2 := PySem.ofString_length (toString i)
  rw [Str.length_append, sizeLine_eq]
  omega
def clN : List Str := ["AskedError", "ToldError", "Ended", "Held", "NoChange", "NoKey", "NoLife", "NoName", "NoPlace", "NoReading", "NoRow", "NoRows", "NoStretch", "NoTable", "NoTaker", "NoText", "NotAsked", "NotEnded", "NothingLeft", "NotOnWire", "NotSure", "TooMany", "Trimmed", "Twice", "Waits"]
def kdN : List Str := ["asked ", "told ", "Ended", "Held", "NoChange", "NoKey", "NoLife", "NoName", "NoPlace", "NoReading", "NoRow", "NoRows", "NoStretch", "NoTable", "NoTaker", "NoText", "NotAsked", "NotEnded", "NothingLeft", "NotOnWire", "NotSure", "TooMany", "Trimmed", "Twice", "Waits", "+"]
/-- which of the classes an exception of D is -/
structure Kd (K : PySem.W.Frag) (mg : Str → Option Value) (D : Addr) (fl : List Bool) : Prop where
  ck : ExK K D
  one : ∀ i x, clN[i]? = some x → ∃ c, mg x = some (.ref c) ∧ PySem.W.kitOne K (.ref D) (.ref c) = some (fl.getD i false)
  ve : PySem.W.kitOne K (.ref D) (.type "ValueError") = some (fl.getD 25 false)
def kindsL (fl : List Bool) : List Str := ((List.range 26).filter (fl.getD · false)).map (kdN.getD · "")
theorem el_catV {p : Addr} {xs ys : List V} {ta tb : TE} {σ : L2.St} {H : Hp} (ha : Ev ta σ H (.ref p)) (hp : H p = some (.lst xs)) (hb : EvL tb σ H ys) (hl : xs.length + ys.length ≤ 100000) : EvL (tOp rCat ta tb) σ H (xs ++ ys) := fun H1 e Q q =>
  ha H1 e _ fun H2 e2 => hb H2 (e.trans e2) _ fun p2 H3 n2 e3 h3 => ⟨p, p2, xs, ys, rfl, rfl, (e2.trans e3) p _ (e p _ hp), h3, sz_of hl, fun l hn => q l _ (fresh_back (e2.trans e3) hn) ((e2.trans e3).trans (Ex.new hn)) upd_same⟩
theorem sum_le {l : List Str} (h : ∀ y ∈ l, y.length ≤ 20) : (l.map (·.length)).sum ≤ 20 * l.length := by
  induction l with
  | nil => exact Nat.le_refl _
  | cons a l ih =>
    have h1 := h a List.mem_cons_self
    have h2 := ih fun y m => h y (List.mem_cons_of_mem _ m)
    rw [List.map_cons, List.sum_cons, List.length_cons]
    omega
theorem kd_len : ∀ i, (kdN.getD i "").length ≤ 20 := fun i => by
  have all : ∀ y ∈ kdN, y.length ≤ 20 := by decide +kernel
  rw [List.getD_eq_getElem?_getD]
  cases e : kdN[i]? with
  | none => exact (by decide +kernel : (Str.ofString "").length ≤ 20)
  | some y => exact all y (List.mem_of_getElem? e)
theorem kinds_len (fl : List Bool) : (kindsL fl).length ≤ 26 := by
  unfold kindsL
  rw [List.length_map]
  exact Nat.le_trans (List.length_filter_le _ _) (by rw [List.length_range]; exact Nat.le_refl _)
theorem flags_eq (g : Nat → V) : [g 0, g 1, g 2, g 3] ++ [g 4, g 5, g 6, g 7] ++ [g 8, g 9, g 10, g 11] ++ [g 12, g 13, g 14, g 15] ++ [g 16, g 17, g 18] ++ [g 19, g 20, g 21, g 22] ++ [g 23, g 24, g 25] = (List.range 26).map g := rfl
theorem kinds_end {K : PySem.W.Frag} {H : Hp} {p6 p9 : Addr} {fl : List Bool} {v : V} {D : Ends} (h6 : H p6 = some (.lst ((List.range 26).map fun i => V.bl (fl.getD i false)))) (h9 : H p9 = some (.lst (kdN.map V.str))) (q : ∀ H', Ex H H' → D.rt (.str (Txt.join "" (kindsL fl))) H') :
    tRet (tM1 (fun x xs H Q => ∃ a p, ∃ ys : List Str, x = .str a ∧ xs = [.ref p] ∧ (SqL K H p (ys.map V.str) ∨ SqT K H p (ys.map V.str)) ∧ (ys.map (·.length)).sum + ys.length * a.length ≤ 16777216 ∧ Q (.str (Txt.join a ys)) H) (tC (.str "")) (tLc (iRng1 (tCons (tC (.int 26)) tNil)) (gName 3) (tB (tOp (rIxL K) (tVar 1) (tVar 3))) (tOp (rIxL K) (tVar 2) (tVar 3)) [3])) D [some v, some (.ref p6), some (.ref p9), none] H := by
  refine ⟨⟨_, rfl⟩, ?_⟩
  have hS : ∀ i : Nat, i < 26 → ((List.range 26).map fun i => V.bl (fl.getD i false))[i]? = some (.bl (fl.getD i false)) := fun i hi => by
    rw [List.getElem?_map, List.getElem?_range hi]
    rfl
  have hW : ∀ i : Nat, i < 26 → (kdN.map V.str)[i]? = some (.str (kdN.getD i "")) := fun i hi => by
    have hi2 : i < kdN.length := hi
    rw [List.getElem?_map, List.getD_eq_getElem?_getD, List.getElem?_eq_getElem hi2]
    rfl
  refine el_lcR1 (n := 26) (σ := [some v, some (.ref p6), some (.ref p9), none]) (fun i => fl.getD i false) (fun i => V.str (kdN.getD i "")) (ea_cons ev_c ea_nil) (by decide) (fun x => rfl) (fun i H1 e hi => et_B (ev_lx (ev_var rfl) (ev_var rfl) (sq_of (e p6 _ h6)) (hS i (by omega)))) (fun i H1 e hi _ => ev_lx (ev_var rfl) (ev_var rfl) (sq_of (e p9 _ h9)) (hW i (by omega))) H (Ex.refl _) _ fun pl Hl nl el hl => ?_
  refine ⟨"", pl, kindsL fl, rfl, rfl, .inl (sq_of ?_), ?_, q Hl el⟩
  · rw [hl]
    unfold kindsL given
    rw [List.map_map]
    rfl
  · have a := sum_le (l := kindsL fl) fun y m => by
      obtain ⟨i, _, rfl⟩ := List.mem_map.mp m
      exact kd_len i
    have b := kinds_len fl
    have c : (Str.ofString "").length = 0 := by decide +kernel
    rw [c]
    omega
/-- what the exceptions of class C are called -/
structure ExC (K : PySem.W.Frag) (mg : Str → Option Value) (x : Str) (C : Addr) (fl : List Bool) : Prop where
  kd : Kd K mg C fl
  xf : XfC K C
  em : PySem.W.exmOne K (.ref C) (.ref C) = some true
  nm : mg x = some (.ref C)
/-! by looking -/
def kdB (K : PySem.W.Frag) (D : Addr) (fl : List Bool) : Bool := (List.range 25).all fun i => match PySem.W.nsIn K mainGlobals (clN.getD i "") with
  | some (some (.ref c)) => decide (PySem.W.kitOne K (.ref D) (.ref c) = some (fl.getD i false))
  | _ => false
def exkB (K : PySem.W.Frag) (D : Addr) : Bool := (PySem.W.clsIn K D).isSome && (decide (PySem.W.findIn K (.ref D) "__getattribute__" = some (some (.builtin "BaseException.__getattribute__"))) && (decide (PySem.W.findIn K (.ref D) "__getattr__" = some none) && (decide (PySem.W.subIn K (.ref D) (.type "BaseException") = some true) &&
  (decide (PySem.W.findIn K (.ref D) "__class__" = some (some (.builtin "object.__class__"))) && (decide (PySem.W.specialIn K (.builtin "object.__class__") "__get__" = some (some (.builtin "getset_descriptor.__get__"))) && (decide (PySem.W.takesIn K (.builtin "object.__class__") = some true) && decide (PySem.W.mroIn K D (.type "object") = some true)))))))
theorem exkB_ok {K : PySem.W.Frag} {D : Addr} (h : exkB K D = true) : ExK K D := by
  obtain ⟨y1, h⟩ := Bool.and_eq_true_iff.mp h
  obtain ⟨y2, h⟩ := Bool.and_eq_true_iff.mp h
  obtain ⟨y3, h⟩ := Bool.and_eq_true_iff.mp h
  obtain ⟨y4, h⟩ := Bool.and_eq_true_iff.mp h
  obtain ⟨y5, h⟩ := Bool.and_eq_true_iff.mp h
  obtain ⟨y6, h⟩ := Bool.and_eq_true_iff.mp h
  obtain ⟨y7, y8⟩ := Bool.and_eq_true_iff.mp h
  exact ⟨y1, of_decide_eq_true y2, of_decide_eq_true y3, of_decide_eq_true y4, of_decide_eq_true y5, of_decide_eq_true y6, of_decide_eq_true y7, of_decide_eq_true y8⟩
/-- all that is to be known of a class C, when its kinds are fl -/
def excB (K : PySem.W.Frag) (C : Addr) (fl : List Bool) : Bool := kdB K C fl && (exkB K C && (xfB K C && (decide (PySem.W.kitOne K (.ref C) (.type "ValueError") = some (fl.getD 25 false)) && decide (PySem.W.exmOne K (.ref C) (.ref C) = some true))))
theorem kdB_ok {K : PySem.W.Frag} {h : Heap} {mg : Str → Option Value} {D : Addr} {fl : List Bool} (X : K.In h) (G : h.Ns mainGlobals mg) (e : kdB K D fl = true) : ∀ i x, clN[i]? = some x → ∃ c, mg x = some (.ref c) ∧ PySem.W.kitOne K (.ref D) (.ref c) = some (fl.getD i false) := by
  intro i x hx
  have hi : i < 25 := (List.getElem?_eq_some_iff.mp hx).1
  have e := List.all_eq_true.mp e i (List.mem_range.mpr hi)
  rw [show clN.getD i "" = x by rw [List.getD_eq_getElem?_getD, hx]; rfl] at e
  split at e
  · rename_i c hc
    exact ⟨c, PySem.W.mg_of X G hc, of_decide_eq_true e⟩
  · cases e
theorem excB_ok {K : PySem.W.Frag} {h : Heap} {mg : Str → Option Value} {x : Str} {C : Addr} {fl : List Bool} (X : K.In h) (G : h.Ns mainGlobals mg) (a : PySem.W.nsIn K mainGlobals x = some (some (.ref C))) (e : excB K C fl = true) : ExC K mg x C fl := by
  obtain ⟨y1, h⟩ := Bool.and_eq_true_iff.mp e
  obtain ⟨y2, h⟩ := Bool.and_eq_true_iff.mp h
  obtain ⟨y3, h⟩ := Bool.and_eq_true_iff.mp h
  obtain ⟨y4, y5⟩ := Bool.and_eq_true_iff.mp h
  exact ⟨⟨exkB_ok y2, kdB_ok X G y1, of_decide_eq_true y4⟩, xfB_ok y3, of_decide_eq_true y5, PySem.W.mg_of X G a⟩
/-- what is to be known that it may be made -/
def oexB (K : PySem.W.Frag) (C : Addr) : Bool := decide (PySem.W.findIn K (.ref C) "__setattr__" = some (some (.builtin "object.__setattr__"))) && (decide (PySem.W.subIn K (.ref C) (.type "BaseException") = some true) && (decide (PySem.W.typeIn K (.ref C) = some (.type "type")) && PySem.W.keepIn K (.ref C)))
theorem oexB_ok {K : PySem.W.Frag} {C N : Addr} {nm q : Str} {bs bm : List Value} {sn sub ab col dd k0 k1 k2 k3 k5} (xL : K.lookup C = some (excClassObj nm q C N bs bm true sn sub ab col dd k0 k1 k2 k3 k5 "ValueError.__new__")) (xR : PySem.HandSPX.refsVE bm = true) (e : oexB K C = true) : OexC K C := by
  obtain ⟨y1, h⟩ := Bool.and_eq_true_iff.mp e
  obtain ⟨y2, h⟩ := Bool.and_eq_true_iff.mp h
  obtain ⟨y3, y4⟩ := Bool.and_eq_true_iff.mp h
  exact ⟨⟨nm, q, N, bs, bm, sn, sub, ab, col, dd, k0, k1, k2, k3, k5, xL, xR⟩, of_decide_eq_true y1, of_decide_eq_true y2, of_decide_eq_true y3, y4⟩
/-- what super() asks, by looking -/
def supB (K : PySem.W.Frag) (file : Str) (C cda : Addr) : Bool := (match K.lookup cda with
    | some ⟨_, _, .fields vs, _⟩ => (match (vs[2]? : Option Value) with | some (.str f _) => file == f | _ => false)
    | _ => false) && ((PySem.W.clsIn K C).isSome && (decide (PySem.W.mroIn K C (.ref C) = some true) && (decide (PySem.W.nsIn K cStatics "thirdparty.any" = some none) && (decide (PySem.W.ks_superIn K C C "__init__" = some (some (.builtin "ValueError.__init__"))) && (decide (PySem.W.subIn K (.ref C) (.type "ValueError") = some true) && decide (PySem.W.nsIn K mainGlobals "super" = some none))))))
theorem supB_ok {P : Program} {K : PySem.W.Frag} {h : Heap} {mg : Str → Option Value} {C cda : Addr} (X : K.In h) (G : h.Ns mainGlobals mg) (top : (P.main.scope.names.lookup ("super" : Str)).isSome = false) (e : supB K P.main.file C cda = true) : SupF P K mg C cda := by
  obtain ⟨y1, h⟩ := Bool.and_eq_true_iff.mp e
  obtain ⟨y2, h⟩ := Bool.and_eq_true_iff.mp h
  obtain ⟨y3, h⟩ := Bool.and_eq_true_iff.mp h
  obtain ⟨y4, h⟩ := Bool.and_eq_true_iff.mp h
  obtain ⟨y5, h⟩ := Bool.and_eq_true_iff.mp h
  obtain ⟨y6, y7⟩ := Bool.and_eq_true_iff.mp h
  refine ⟨?_, top, PySem.W.mg_none_of X G (of_decide_eq_true y7), Option.isSome_iff_exists.mp y2, of_decide_eq_true y3, of_decide_eq_true y4, of_decide_eq_true y5, of_decide_eq_true y6⟩
  split at y1
  · rename_i c d vs sl hl
    split at y1
    · rename_i f t hv
      exact ⟨_, vs, f, t, hl, rfl, hv, y1⟩
    · cases y1
  · cases y1
end Tc
/-! data of a known depth: such data can be compared, and are like themselves -/
namespace Tc
open PySem L2 PyProof.Rows Evl
def sd : Nat → PyData → Bool
  | _, .none => true
  | _, .bool _ => true
  | _, .int _ => true
  | _, .str s => PyData.strOk s
  | n + 1, .list xs => xs.all (sd n)
  | n + 1, .tuple xs => xs.all (sd n)
  | _, _ => false
theorem sd_ok : ∀ (n : Nat) (d : PyData), sd n d = true → PyData.canLay0 d = true ∧ d.depth ≤ n ∧ PyData.eqv d d = true := by
  intro n
  induction n with
  | zero =>
    intro d h
    cases d with
    | none => exact ⟨rfl, Nat.le_refl _, rfl⟩
    | bool b => exact ⟨rfl, Nat.le_refl _, by simp [PyData.eqv]⟩
    | int i => exact ⟨rfl, Nat.le_refl _, by simp [PyData.eqv]⟩
    | str s => exact ⟨h, Nat.le_refl _, by simp [PyData.eqv]⟩
    | list xs => cases h
    | tuple xs => cases h
    | dict xs => cases h
  | succ n ih =>
    have all : ∀ xs : List PyData, xs.all (sd n) = true → PyData.canLayAll0 xs = true ∧ PyData.depthAll xs ≤ n ∧ PyData.eqvAll xs xs = true := by
      intro xs
      induction xs with
      | nil => exact fun _ => ⟨rfl, Nat.zero_le _, rfl⟩
      | cons x xs ihx =>
        intro h
        rw [List.all_cons, Bool.and_eq_true] at h
        obtain ⟨a1, a2, a3⟩ := ih x h.1
        obtain ⟨b1, b2, b3⟩ := ihx h.2
        rw [PyData.canLayAll0, PyData.depthAll, PyData.eqvAll, a1, b1, a3, b3]
        exact ⟨rfl, Nat.max_le.mpr ⟨a2, b2⟩, rfl⟩
    intro d h
    cases d with
    | none => exact ⟨rfl, Nat.zero_le _, rfl⟩
    | bool b => exact ⟨rfl, Nat.zero_le _, by simp [PyData.eqv]⟩
    | int i => exact ⟨rfl, Nat.zero_le _, by simp [PyData.eqv]⟩
    | str s => exact ⟨h, Nat.zero_le _, by simp [PyData.eqv]⟩
    | list xs =>
      obtain ⟨a1, a2, a3⟩ := all xs h
      rw [PyData.canLay0, PyData.depth, PyData.eqv]
      exact ⟨a1, by omega, a3⟩
    | tuple xs =>
      obtain ⟨a1, a2, a3⟩ := all xs h
      rw [PyData.canLay0, PyData.depth, PyData.eqv]
      exact ⟨a1, by omega, a3⟩
    | dict xs => cases h
theorem sd_sh {n : Nat} {d : PyData} (h : sd n d = true) (hn : n ≤ 64) : SeqAt.shaped d = true := by
  obtain ⟨a, b, _⟩ := sd_ok n d h
  unfold SeqAt.shaped
  rw [a, decide_eq_true (Nat.le_trans b hn)]
  rfl
theorem sd_eq {n : Nat} {d : PyData} (h : sd n d = true) : PyData.eqv d d = true := (sd_ok n d h).2.2
end Tc
/-! len(x) of an object of the program's own, by its __len__ -/
namespace Tc
open PySem PySem.Spec PyProof.Rows L2
end Tc
/-! a field as a target among others: x.f, y = .. -/
namespace Tc
open PySem PySem.Spec PyProof.Rows L2
end Tc
/-! d.update(d2) -/
namespace Tc
open PySem PySem.Spec PyProof.Rows L2
end Tc
/-! a tuple that is written, known to have no dict of its own -/
namespace Tc
open PySem PySem.Spec PyProof.Rows L2
end Tc
/-! defs with names behind a star that may let an exception out; a part of a tuple that has no dict -/
namespace Tc
open PySem PySem.Spec PyProof.Rows L2
end Tc
/-! methods that may let an exception out; a caught exception's fields, its kind among several, in a def that an except suite calls -/
namespace Tc
open PySem PySem.Spec PyProof.Rows L2 L2H
end Tc
/-! an exception of the text without an __init__ of its own; an own class whose __init__ may let an exception out -/
namespace Tc
open PySem PySem.Spec PyProof.Rows L2 L2H
/-- an exception under its name, made of a text -/
def OwnE0 (K : PySem.W.Frag) (mg : Str → Option Value) (x : Str) (C : Addr) (bm : List Value) : Prop :=
  PySem.W.excIn K C bm "ValueError.__new__" = true ∧ mg x = some (.ref C) ∧ PySem.W.keepIn K (.ref C) = true ∧ PySem.W.subIn K (.ref C) (.type "BaseException") = some true ∧ PySem.W.typeIn K (.ref C) = some (.type "type")
end Tc
/-! methods that may let an exception out: without a thing handed in, with names behind a star; a class made of nothing -/
namespace Tc
open PySem PySem.Spec PyProof.Rows L2 L2H
end Tc
/-! an object while its fields are laid -/
namespace Tc
open PySem L2 Evl
/-- the object at p on its way: what stood at H0 stays, what came is told in nw -/
structure Ini (C dx p : Addr) (H0 : Hp) (fs : List (Str × V)) (nw : List (Addr × HO)) (H : Hp) : Prop where
  ob : H p = some (.ins C dx fs)
  bb : ∀ a o, a ≠ p → H0 a = some o → H a = some o
  fr : ∀ a, H a = none → H0 a = none
  nws : ∀ q ∈ nw, H q.1 = some q.2 ∧ H0 q.1 = none ∧ q.1 ≠ p
  nd : (nw.map (·.1)).Nodup
section
variable {C dx p : Addr} {H0 H H' : Hp} {fs : List (Str × V)} {nw : List (Addr × HO)}
theorem Ini.ex (I : Ini C dx p H0 fs nw H) (x : Ex H H') : Ini C dx p H0 fs nw H' := ⟨x _ _ I.ob, fun a o n h => x _ _ (I.bb a o n h), fun a h => I.fr a (fresh_back x h), fun q m => ⟨x _ _ (I.nws q m).1, (I.nws q m).2⟩, I.nd⟩
theorem Ini.new {d : Addr} {o : HO} (I : Ini C dx p H0 fs nw H) (hd : H d = none) (x : Ex H H') (h : H' d = some o) : Ini C dx p H0 fs ((d, o) :: nw) H' := by
  have J := I.ex x
  refine ⟨J.ob, J.bb, J.fr, fun q m => ?_, ?_⟩
  · rcases List.mem_cons.mp m with rfl | m
    · refine ⟨h, I.fr d hd, fun z => ?_⟩
      have := I.ob
      rw [← z, hd] at this
      cases this
    · exact J.nws q m
  · rw [List.map_cons]
    refine List.nodup_cons.mpr ⟨fun m => ?_, I.nd⟩
    obtain ⟨q, mq, e⟩ := List.mem_map.mp m
    have := (I.nws q mq).1
    rw [e, hd] at this
    cases this
variable {K : PySem.W.Frag} {D : Ends} {σ : L2.St} {te : TE} {v : V} {f : Str} {i : Nat}
end
end Tc
/-! a house: its fields and what they hold -/
namespace Tc
open PySem L2 Evl
def hfl (dW dK : Addr) (fk lg bg : Int) (dL dR : Addr) : List (Str × V) := [("worths", .ref dW), ("kept", .ref dK), ("first_kept", .int fk), ("lives_given", .int lg), ("begun", .int bg), ("living", .ref dL), ("running", .ref dR)]
/-- a house at p -/
structure HsAt (C : Addr) (H : Hp) (p dW dK dL dR : Addr) (kvs : List (Key × V)) (kept : List V) (fk lg bg : Int) (liv run : List (Key × V)) : Prop where
  ob : ∃ dx, H p = some (.ins C dx (hfl dW dK fk lg bg dL dR))
  wo : H dW = some (.dK kvs)
  ke : H dK = some (.lst kept)
  li : H dL = some (.dK liv)
  ru : H dR = some (.dK run)
  n1 : dW ≠ dL
  n2 : dW ≠ dR
  n3 : dL ≠ dR
section
variable {C : Addr} {H H' : Hp} {p dW dK dL dR : Addr} {kvs : List (Key × V)} {kept : List V} {fk lg bg : Int} {liv run : List (Key × V)}
theorem HsAt.ex (S : HsAt C H p dW dK dL dR kvs kept fk lg bg liv run) (x : Ex H H') : HsAt C H' p dW dK dL dR kvs kept fk lg bg liv run :=
  ⟨let ⟨dx, h⟩ := S.ob; ⟨dx, x _ _ h⟩, x _ _ S.wo, x _ _ S.ke, x _ _ S.li, x _ _ S.ru, S.n1, S.n2, S.n3⟩
end
end Tc
/-! tuples stay -/
namespace Tc
open PySem L2 Evl
def Kt (H H' : Hp) : Prop := ∀ a u, (∃ xs, u = .tup xs ∨ ∃ o, u = .frz o (.tup xs)) → H a = some u → H' a = some u
theorem Kt.ex {H H' : Hp} (x : Ex H H') : Kt H H' := fun a u _ h => x a u h
theorem Kt.trans {H H1 H2 : Hp} (x : Kt H H1) (y : Kt H1 H2) : Kt H H2 := fun a u k h => y a u k (x a u k h)
section
variable {K : PySem.W.Frag} {H H' : Hp}
theorem Kt.t {a : Addr} {xs : List V} (e : Kt H H') (h : SqT K H a xs) : SqT K H' a xs := by
  rcases h with (h | ⟨o, h⟩) | h
  · exact .inl (.inl (e a _ ⟨xs, .inl rfl⟩ h))
  · exact .inl (.inr ⟨o, e a _ ⟨xs, .inr ⟨o, rfl⟩⟩ h⟩)
  · exact .inr h
theorem Kt.dp (e : Kt H H') : ∀ (n : Nat) (d : PyData) (v : V), nl n d = true → Dp K H v d → Dp K H' v d
  | 0, d, v, g, h => by
    cases h with
    | non => exact .non
    | bl b => exact .bl b
    | int i => exact .int i
    | str x => exact .str x
    | lst => cases g
    | tup => cases g
  | n + 1, d, v, g, h => by
    cases h with
    | non => exact .non
    | bl b => exact .bl b
    | int i => exact .int i
    | str x => exact .str x
    | lst => cases g
    | tup hs r => exact .tup (e.t hs) (dps_each (fun d m v => Kt.dp e n d v (List.all_eq_true.mp g d m)) r)
theorem Kt.dps (e : Kt H H') {n : Nat} {ds : List PyData} {vs : List V} (g : ∀ d ∈ ds, nl n d = true) (h : DpAll K H vs ds) : DpAll K H' vs ds := dps_each (fun d m v => e.dp n d v (g d m)) h
end
theorem Kt.fr {b : Addr} {H H' : Hp} (hB : Bag H b) (f : Fr b H H') : Kt H H' := fun a u k h => f.at h fun z => by
  obtain ⟨x, y, hb, _⟩ := hB
  rw [z, hb] at h
  obtain ⟨xs, rfl | ⟨o, rfl⟩⟩ := k <;> cases h
/-- all but what is no tuple -/
theorem Kt.but {H H' : Hp} (P : Addr → Prop) (h : ∀ a, P a → ∃ o, H a = some o ∧ (∀ xs, o ≠ .tup xs) ∧ ∀ o' xs, o ≠ .frz o' (.tup xs)) (e : ∀ a o, ¬ P a → H a = some o → H' a = some o) : Kt H H' := fun a u k ha => by
  refine e a u (fun z => ?_) ha
  obtain ⟨o, ho, n1, n2⟩ := h a z
  rw [ha] at ho
  obtain ⟨xs, rfl | ⟨o', rfl⟩⟩ := k
  · exact n1 xs (Option.some.inj ho).symm
  · exact n2 o' xs (Option.some.inj ho).symm
section
variable {C : Addr} {H H' : Hp} {p dW dK dL dR : Addr} {kvs : List (Key × V)} {kept : List V} {fk lg bg : Int} {liv run : List (Key × V)}
theorem HsAt.kt (S : HsAt C H p dW dK dL dR kvs kept fk lg bg liv run) (e : ∀ a o, a ≠ p → a ≠ dW → a ≠ dK → a ≠ dL → a ≠ dR → H a = some o → H' a = some o) : Kt H H' := by
  refine Kt.but (fun a => a = p ∨ a = dW ∨ a = dK ∨ a = dL ∨ a = dR) (fun a z => ?_) fun a o z h => e a o (fun y => z (.inl y)) (fun y => z (.inr (.inl y))) (fun y => z (.inr (.inr (.inl y)))) (fun y => z (.inr (.inr (.inr (.inl y))))) (fun y => z (.inr (.inr (.inr (.inr y))))) h
  obtain ⟨dx, hp⟩ := S.ob
  rcases z with rfl | rfl | rfl | rfl | rfl
  · exact ⟨_, hp, (fun xs z => by cases z), fun o xs z => by cases z⟩
  · exact ⟨_, S.wo, (fun xs z => by cases z), fun o xs z => by cases z⟩
  · exact ⟨_, S.ke, (fun xs z => by cases z), fun o xs z => by cases z⟩
  · exact ⟨_, S.li, (fun xs z => by cases z), fun o xs z => by cases z⟩
  · exact ⟨_, S.ru, (fun xs z => by cases z), fun o xs z => by cases z⟩
end
end Tc
/-! what is collected, in its order; a drawn table's rows rise with the keys -/
namespace Tc
open PySem L2 Evl PyProof.Rows
structure ColW (b : Addr) (K : PySem.W.Frag) (W : Nat → List PyData → Prop) (H : Hp) (D : Addr) (i : Nat) (H' : Hp) : Prop where
  fr : Fr b H H'
  new : H D = none
  ne : D ≠ b
  ex : ∃ (vs : List V) (ds : List PyData), H' D = some (.lst vs) ∧ DpAll K (hid D (hid b H')) vs ds ∧ vs.length ≤ i ∧ W i ds
section
variable {b D : Addr} {K : PySem.W.Frag} {W : Nat → List PyData → Prop} {H H' H4 : Hp} {i : Nat} {y : V} {d : PyData}
theorem ColW.push (c : ColW b K W H D i H') (f : Fr b H' H4) (hy : Dp K (hid D (hid b H4)) y d) (w : ∀ ds, W i ds → W (i + 1) (ds ++ [d])) (hi : i < 10000) : ∃ acc, H4 D = some (.lst acc) ∧ acc.length < sizeLine ∧ ColW b K W H D (i + 1) (upd H4 D (.lst (acc ++ [y]))) := by
  obtain ⟨vs, ds, h1, h2, h3, h4⟩ := c.ex
  refine ⟨vs, f.at h1 c.ne, sz_lt (by omega), Fr.mut (c.fr.trans f) c.new c.ne, c.new, c.ne, vs ++ [y], ds ++ [d], upd_same, ?_, by rw [List.length_append]; exact Nat.succ_le_succ h3, w _ h4⟩
  rw [hid_upd2 _ _ c.ne]
  exact dps_app (dps_same (same_hid f.sm) _ _ h2) (.cons hy .nil)
theorem ColW.at (c : ColW b K W H D i H') : H' D ≠ none := by
  obtain ⟨vs, ds, h1, _⟩ := c.ex
  exact fun z => by
    rw [h1] at z
    cases z
end
theorem lt_take {ks : List Int} {i : Nat} {kk x : Int} (pw : ks.Pairwise (· < ·)) (h : ks[i]? = some kk) (m : x ∈ ks.take i) : x < kk := by
  have e : ks.take (i + 1) = ks.take i ++ [kk] := by
    rw [List.take_succ, h]
    rfl
  have p := pw.sublist (List.take_sublist (i + 1) ks)
  rw [e] at p
  exact (List.pairwise_append.mp p).2.2 x m kk (List.mem_singleton_self _)
def rowsUp (ks : List Int) (i : Nat) (ds : List PyData) : Prop := ∃ rs : List (Int × Int), ds = rs.map pairD ∧ (∀ r ∈ rs, r.1 ∈ ks.take i ∧ 0 ≤ r.2 ∧ r.2 < 1000) ∧ (ks.Pairwise (· < ·) → rs.Pairwise fun a b => a.1 < b.1)
theorem rowsUp.push {ks : List Int} {i : Nat} {ds : List PyData} {kk w : Int} (h : rowsUp ks i ds) (hk : ks[i]? = some kk) (hw : 0 ≤ w ∧ w < 1000) : rowsUp ks (i + 1) (ds ++ [pairD (kk, w)]) := by
  obtain ⟨rs, e, h1, h2⟩ := h
  refine ⟨rs ++ [(kk, w)], by rw [e, List.map_append]; rfl, fun r m => ?_, fun pw => List.pairwise_append.mpr ⟨h2 pw, List.pairwise_singleton _ _, fun a ma c mc => ?_⟩⟩
  · rw [List.take_succ, hk]
    rcases List.mem_append.mp m with m | m
    · exact ⟨List.mem_append_left _ (h1 r m).1, (h1 r m).2⟩
    · rw [List.mem_singleton.mp m]
      exact ⟨List.mem_append_right _ (List.mem_singleton_self _), hw⟩
  · rw [List.mem_singleton.mp mc]
    exact lt_take pw hk (h1 a ma).1
end Tc
/-! draws in tests and in ranges -/
namespace Tc
open PySem L2 Evl
end Tc
/-! a house and its readings, as they stand and as they are told -/
namespace Tc
open PySem L2 Evl
/-- all keys -/
def allKs : List Int := (List.range 1000).map fun (i : Nat) => (i : Int)
def opV : Option Int → V
  | some z => .int z
  | none => .non
/-- the lives, each with the place that it holds -/
def lvV (l : List (Int × Option Int)) : List (Key × V) := l.map fun r => (.inl r.1, opV r.2)
/-- a reading -/
structure Rdg where
  num : Int
  own : Int
  lo : Int
  hi : Int
  found : List (Int × Int)
  ended : Bool
/-- a reading that is one -/
structure RgOk (x : Rdg) : Prop where
  a : 0 ≤ x.lo
  b : x.lo < x.hi
  c : x.hi ≤ 1000
  f : ∀ r ∈ x.found, 0 ≤ r.1 ∧ r.1 < 1000
  g : x.found.Pairwise fun a b => a.1 < b.1
/-- a house -/
structure HM where
  f : Int → Option Int
  log : List PyData
  fk : Nat
  lg : Nat
  bg : Nat
  liv : List (Int × Option Int)
  run : List Rdg
def rfd (own : Int) (st fl : Addr) (en : Bool) : List (Str × V) := [("owner", .int own), ("stretch", .ref st), ("found", .ref fl), ("ended", .bl en)]
/-- a reading at r, its rows at fl -/
structure RdAt (K : PySem.W.Frag) (R : Addr) (H : Hp) (r fl : Addr) (x : Rdg) : Prop where
  ob : ∃ dx st, H r = some (.ins R dx (rfd x.own st fl x.ended)) ∧ SqT K H st [.int x.lo, .int x.hi]
  fo : ∃ vs, H fl = some (.lst vs) ∧ DpAll K H vs (x.found.map pairD)
theorem RdAt.keep {K : PySem.W.Frag} {R : Addr} {H H' : Hp} {r fl : Addr} {x : Rdg} (h : RdAt K R H r fl x) (e1 : ∀ o, H r = some o → H' r = some o) (e2 : ∀ o, H fl = some o → H' fl = some o) (kt : Kt H H') : RdAt K R H' r fl x := by
  obtain ⟨⟨dx, st, h1, h2⟩, vs, h3, h4⟩ := h
  exact ⟨⟨dx, st, e1 _ h1, kt.t h2⟩, vs, e2 _ h3, kt.dps (n := 1) (fun d m => by
    obtain ⟨r, _, rfl⟩ := List.mem_map.mp m
    rfl) h4⟩
def rnV (l : List (Rdg × Addr × Addr)) : List (Key × V) := l.map fun t => (.inl t.1.num, .ref t.2.1)
/-- what the house holds as its own -/
def fpL (p dW dK dL dR : Addr) (l : List (Rdg × Addr × Addr)) : List Addr := p :: dW :: dK :: dL :: dR :: l.flatMap fun t => [t.2.1, t.2.2]
structure HsB (K : PySem.W.Frag) (C R : Addr) (H : Hp) (p dW dK dL dR : Addr) (kvs : List (Key × V)) (kept : List V) (l : List (Rdg × Addr × Addr)) (m : HM) : Prop where
  at' : HsAt C H p dW dK dL dR kvs kept m.fk m.lg m.bg (lvV m.liv) (rnV l)
  di : DI allKs kvs m.f
  lo : DpAll K H kept m.log
  go : ∀ d ∈ m.log, goodEn allKs d = true
  lv : m.liv.Pairwise fun x y => x.1 < y.1
  lb : ∀ r ∈ m.liv, 1 ≤ r.1 ∧ r.1 ≤ m.lg
  rn : l.map (·.1) = m.run
  rp : m.run.Pairwise fun x y => x.num < y.num
  rb : ∀ x ∈ m.run, 0 ≤ x.num ∧ x.num < m.bg
  rk : ∀ x ∈ m.run, RgOk x
  rd : ∀ t ∈ l, RdAt K R H t.2.1 t.2.2 t.1
  nd : (fpL p dW dK dL dR l).Nodup
/-- a house at p that holds just X -/
def HsM (K : PySem.W.Frag) (C R : Addr) (H : Hp) (p : Addr) (m : HM) (X : Addr → Prop) : Prop := ∃ dW dK dL dR kvs kept l, HsB K C R H p dW dK dL dR kvs kept l m ∧ ∀ a, X a ↔ a ∈ fpL p dW dK dL dR l
def Off (X : Addr → Prop) (H H' : Hp) : Prop := ∀ a o, ¬ X a → H a = some o → H' a = some o
/-- no tuple -/
def NoT (H : Hp) (a : Addr) : Prop := ∃ o, H a = some o ∧ (∀ xs, o ≠ .tup xs) ∧ ∀ o' xs, o ≠ .frz o' (.tup xs)
theorem Off.kt {X : Addr → Prop} {H H' : Hp} (h : ∀ a, X a → NoT H a) (e : Off X H H') : Kt H H' := Kt.but X h e
theorem Off.ex {X : Addr → Prop} {H H' : Hp} (x : Ex H H') : Off X H H' := fun a o _ h => x a o h
theorem Off.trans {X : Addr → Prop} {H H1 H2 : Hp} (a : Off X H H1) (b : Off X H1 H2) : Off X H H2 := fun x o n h => b x o n (a x o n h)
/-- what stands behind a call: the house is m' now, all else stays -/
def HOut (K : PySem.W.Frag) (C R : Addr) (H : Hp) (p : Addr) (X : Addr → Prop) (m' : HM) (H' : Hp) : Prop := ∃ X', HsM K C R H' p m' X' ∧ Off X H H' ∧ ∀ a, X' a → X a ∨ H a = none
section
variable {K : PySem.W.Frag} {C R : Addr} {H H' : Hp} {p dW dK dL dR : Addr} {kvs : List (Key × V)} {kept : List V} {l : List (Rdg × Addr × Addr)} {m : HM} {X : Addr → Prop}
theorem fp_p : p ∈ fpL p dW dK dL dR l := List.mem_cons_self
theorem fp_W : dW ∈ fpL p dW dK dL dR l := List.mem_cons_of_mem _ List.mem_cons_self
theorem fp_K : dK ∈ fpL p dW dK dL dR l := List.mem_cons_of_mem _ (List.mem_cons_of_mem _ List.mem_cons_self)
theorem fp_L : dL ∈ fpL p dW dK dL dR l := List.mem_cons_of_mem _ (List.mem_cons_of_mem _ (List.mem_cons_of_mem _ List.mem_cons_self))
theorem fp_R : dR ∈ fpL p dW dK dL dR l := List.mem_cons_of_mem _ (List.mem_cons_of_mem _ (List.mem_cons_of_mem _ (List.mem_cons_of_mem _ List.mem_cons_self)))
theorem fp_r {t : Rdg × Addr × Addr} (h : t ∈ l) : t.2.1 ∈ fpL p dW dK dL dR l ∧ t.2.2 ∈ fpL p dW dK dL dR l := by
  have g : ∀ a ∈ [t.2.1, t.2.2], a ∈ fpL p dW dK dL dR l := fun a ha => List.mem_cons_of_mem _ (List.mem_cons_of_mem _ (List.mem_cons_of_mem _ (List.mem_cons_of_mem _ (List.mem_cons_of_mem _ (List.mem_flatMap.mpr ⟨t, h, ha⟩)))))
  exact ⟨g _ List.mem_cons_self, g _ (List.mem_cons_of_mem _ List.mem_cons_self)⟩
theorem HsB.noT (S : HsB K C R H p dW dK dL dR kvs kept l m) : ∀ a ∈ fpL p dW dK dL dR l, NoT H a := fun a ha => by
  obtain ⟨dx, hp⟩ := S.at'.ob
  unfold fpL at ha
  rcases List.mem_cons.mp ha with rfl | ha
  · exact ⟨_, hp, (fun xs z => by cases z), fun o xs z => by cases z⟩
  rcases List.mem_cons.mp ha with rfl | ha
  · exact ⟨_, S.at'.wo, (fun xs z => by cases z), fun o xs z => by cases z⟩
  rcases List.mem_cons.mp ha with rfl | ha
  · exact ⟨_, S.at'.ke, (fun xs z => by cases z), fun o xs z => by cases z⟩
  rcases List.mem_cons.mp ha with rfl | ha
  · exact ⟨_, S.at'.li, (fun xs z => by cases z), fun o xs z => by cases z⟩
  rcases List.mem_cons.mp ha with rfl | ha
  · exact ⟨_, S.at'.ru, (fun xs z => by cases z), fun o xs z => by cases z⟩
  obtain ⟨t, mt, ha⟩ := List.mem_flatMap.mp ha
  obtain ⟨⟨dx, st, h1, _⟩, vs, h3, _⟩ := S.rd t mt
  simp only [List.mem_cons, List.not_mem_nil, or_false] at ha
  rcases ha with rfl | rfl
  · exact ⟨_, h1, (fun xs z => by cases z), fun o xs z => by cases z⟩
  · exact ⟨_, h3, (fun xs z => by cases z), fun o xs z => by cases z⟩
/-- what is its own stays, and tuples: then the house does -/
theorem HsB.keep (S : HsB K C R H p dW dK dL dR kvs kept l m) (e : ∀ a o, a ∈ fpL p dW dK dL dR l → H a = some o → H' a = some o) (kt : Kt H H') : HsB K C R H' p dW dK dL dR kvs kept l m := by
  obtain ⟨dx, hp⟩ := S.at'.ob
  refine ⟨⟨⟨dx, e _ _ fp_p hp⟩, e _ _ fp_W S.at'.wo, e _ _ fp_K S.at'.ke, e _ _ fp_L S.at'.li, e _ _ fp_R S.at'.ru, S.at'.n1, S.at'.n2, S.at'.n3⟩, S.di, kt.dps (fun d m => nl_en (S.go d m)) S.lo, S.go, S.lv, S.lb, S.rn, S.rp, S.rb, S.rk, fun t mt => ?_, S.nd⟩
  exact (S.rd t mt).keep (fun o h => e _ _ (fp_r mt).1 h) (fun o h => e _ _ (fp_r mt).2 h) kt
theorem HsM.keep (S : HsM K C R H p m X) (e : ∀ a o, X a → H a = some o → H' a = some o) (kt : Kt H H') : HsM K C R H' p m X := by
  obtain ⟨dW, dK, dL, dR, kvs, kept, l, B, fx⟩ := S
  exact ⟨dW, dK, dL, dR, kvs, kept, l, B.keep (fun a o h => e a o ((fx a).mpr h)) kt, fx⟩
theorem HsM.ex (S : HsM K C R H p m X) (x : Ex H H') : HsM K C R H' p m X := S.keep (fun a o _ h => x a o h) (Kt.ex x)
theorem HsM.noT (S : HsM K C R H p m X) : ∀ a, X a → NoT H a := fun a h => by
  obtain ⟨dW, dK, dL, dR, kvs, kept, l, B, fx⟩ := S
  exact B.noT a ((fx a).mp h)
theorem HsM.fr {b : Addr} (S : HsM K C R H p m X) (hB : Bag H b) (f : Fr b H H') (n : ¬ X b) : HsM K C R H' p m X := S.keep (fun a o h z => f.at z fun y => n (y ▸ h)) (Kt.fr hB f)
theorem HOut.refl (S : HsM K C R H p m X) : HOut K C R H p X m H := ⟨X, S, fun _ _ _ h => h, fun _ h => .inl h⟩
end
end Tc
/-! raising, said once -/
namespace Tc
open PySem L2 L2H PyProof.Rows Evl NdefX
end Tc
/-! an exception's own __init__ whose field may be left out: f"{x}" of None or a number; raise C() -/
namespace Tc
open PySem PySem.Spec L2 L2H PyProof.Rows Evl NdefX
section
variable {X : Cx}
/-- a field that is None or a number, as a text -/
def tFmtO (te : TE) : TE := fun σ H Q => te σ H fun x H1 => (x = .non ∧ Q (.str "None") H1) ∨ ∃ i : Int, x = .int i ∧ i.natAbs.log2 < 1920 ∧ Q (.str (toString i)) H1
theorem pe_fmtO {e : Expr} {te : TE} {pos : Pos} (he : PE X e te) : PE X (.FormattedValue e (-1) none pos) (tFmtO te) := by
  refine ⟨fun pins s σ H Q I want => wpAny_FormattedValue_plain (thn (he.run pins s σ H _ I want) fun v s1 got => ?_)⟩
  obtain ⟨x, G, J, rx, o⟩ := got
  rcases o with ⟨rfl, go⟩ | ⟨i, rfl, lo, go⟩
  · obtain rfl : v = Value.none := rx
    exact wpAny_formatField_none ⟨V.str "None", G, J.tok _, ⟨_, rfl⟩, go⟩
  · obtain ⟨t, rfl⟩ := rx
    exact wpAny_formatField_int lo ⟨V.str (toString i), G, J.tok _, ⟨_, rfl⟩, go⟩
/-- an own __init__ that keeps None or a number as its field f -/
def spXO (C : Addr) (f : Str) : Sp := fun vs H Q _ => ∃ (a : Addr) (v : V), vs = [.ref a, v] ∧ H a = some (exo a C none) ∧ (v = .non ∨ ∃ i : Int, v = .int i ∧ i.natAbs.log2 < 1920) ∧
  ∀ d H', H d = none → d ≠ a → H' a = some (exo a C (some d)) → H' d = some (exd d [(f, v)]) → (∀ b o, b ≠ a → H b = some o → H' b = some o) → Q .non H'
/-- an exception of the text under its name, its last parameters with defaults -/
def OwnED (P : Program) (w : World) (K : PySem.W.Frag) (mg : Str → Option Value) (base : Heap) (x : Str) (C : Addr) (ps : List Str) (dvs : List V) (k : Nat) (sp : Sp) : Prop :=
  ∃ (f : Addr) (fd : FuncData) (ds : List Value), FnOk P w K mg base CX0 k f fd ps sp ∧ OexC K C ∧ PySem.W.findIn K (.ref C) "__init__" = some (some (.ref f)) ∧ PySem.W.typeIn K (.ref f) = some (.type "function") ∧ mg x = some (.ref C) ∧ Binds K fd ps ds ∧ Vals dvs ds
end
end Tc
/-! exceptions of the text as values: made by places or by names, told apart, their fields read -/
namespace Tc.Xk
open PySem PySem.W PySem.Spec PySem.HandSPX
section
variable {pr : Program} {w : World} {Mo : Model} {Ar : Around} {Er : Value → Shared → Prop} {ho : Heap} {gs : Array GenState} {dr : Drawn} {tk : Nat} {so : OsState}
variable {nm qn : Str} {C Nd : Addr} {bs bm bB : List Value} {hd ab : Bool} {sn : List Str} {sb : List Value} {co : Option Bool} {di : Option Addr} {j0 j1 j2 j3 j5 : Option Value} {Bn nI iI : String} {ar : List Value} {kw : List (Str × Value)}
set_option maxHeartbeats 2000000 in
/-- names are let by -/
theorem look_new {Qu : Unit → Shared → Prop} (Fx : ExcBaseFacts Bn nI iI bB) (same : ∀ Y : String, bm.contains (.type Y) = bB.contains (.type Y)) (lie : ho.get? C = some (excClassObj nm qn C Nd bs bm hd sn sb ab co di j0 j1 j2 j3 j5 nI)) (go : Qu () ⟨ho, gs, dr, tk, so⟩) :
    wpAny Mo Ar (checkBuiltinCall nI ⟨.ref C :: ar, kw⟩) Qu Er ⟨ho, gs, dr, tk, so⟩ := by
  have inB : (Value.ref C :: bm).contains (.type Bn) = true := (List.contains_cons).trans ((congrArg _ ((same Bn).trans Fx.hasB)).trans (Bool.or_true _))
  have st := Fx.noStar
  simp only [checkBuiltinCall, Fx.newKind, Fx.newSplit, Fx.newRow]
  repeat (first | (refine wpAny_isSubtype_exc lie ?_; rw [inB]) | refine wpAny_loadPart_at lie ?_ | refine wpAny_madeBy_exc lie ?_ | refine wpAny_staticBase_exc lie ?_ | simp only [Bool.false_eq_true, bne_self_eq_false, if_false] | wp_step)
  exact go
set_option maxHeartbeats 2000000 in
theorem laid_new {Re : Result → Shared → Prop} (Fx : ExcBaseFacts Bn nI iI bB) (same : ∀ Y : String, bm.contains (.type Y) = bB.contains (.type Y)) (lie : ho.get? C = some (excClassObj nm qn C Nd bs bm hd sn sb ab co di j0 j1 j2 j3 j5 nI)) (few : ar.length ≤ sizeLine)
    (go : Re (.ok (.ret (.ref (ho.objs.size + 1)))) ⟨(ho.push (PySem.W.kdv_tup ar)).push (excO C ho.objs.size), gs, dr, tk, so⟩) : codeAny (model pr w) Ar (.builtin nI ⟨.ref C :: ar, kw⟩) Re ⟨ho, gs, dr, tk, so⟩ := by
  have en := Fx.ends
  have mem : ∀ Y : String, (Value.ref C :: bm).contains (.type Y) = bB.contains (.type Y) := fun Y => by rw [List.contains_cons, same Y]; rfl
  have inB := (mem Bn).trans Fx.hasB
  have inA := (mem "AttributeError").trans Fx.noAttr
  have inN := (mem "NameError").trans Fx.noName
  refine codeAny_builtinAt Fx.entry ?_
  unfold Builtin.«BaseException.__new__»; skip
  refine wpAt_bind (?_ : wpAt _ _ _ (stack >>= _) _ _ _)
  refine wpAt_bind (wpAt_stack fun _ _ => wpAt_of_wpAny ?_)
  wp_walk
  refine wpAt_of_wpAny ?_
  rw [Fx.owner]
  repeat (first | with_reducible refine wpAny_loadPart_at lie ?_ | with_reducible refine wpAny_madeHere_exc Fx.canon lie ?_ | (with_reducible refine wpAny_isSubtype_exc lie ?_; first | rw [inA] | rw [inN] | rw [inB]) | wp_step)
  refine (?_ : Re _ _)
  rw [Heap.size_push]
  exact go
set_option maxHeartbeats 2000000 in
theorem called_new {Qf : Fin → Shared → Prop} {fI : Addr} (Fx : ExcBaseFacts Bn nI iI bB) (same : ∀ Y : String, bm.contains (.type Y) = bB.contains (.type Y)) (lie : ho.get? C = some (excClassObj nm qn C Nd bs bm hd sn sb ab co di j0 j1 j2 j3 j5 nI)) (init : W.Looks (model pr w) ho (typeLookup (.ref C) "__init__") (some (.ref fI)))
    (bound : ∀ self, W.Looks (model pr w) ho (bindSpecial (.ref fI) self) (.ref fI, [self])) (few : ar.length ≤ sizeLine)
    (go : codeAny (model pr w) Ar (.call (.ref fI) ⟨.ref (ho.objs.size + 1) :: ar, kw⟩) (fun r s' => match r with | .ok (.ret v) => v = .none ∧ Qf (.done (.ret (.ref (ho.objs.size + 1)))) s' | .ok _ => False | .error u => Er u s') ⟨(ho.push (PySem.W.kdv_tup ar)).push (excO C ho.objs.size), gs, dr, tk, so⟩) :
    wpAny (model pr w) Ar (Builtin.«type.__call__» ⟨.ref C :: ar, kw⟩) Qf Er ⟨ho, gs, dr, tk, so⟩ := by
  repeat (first | with_reducible refine wpAny_madeBy_exc lie ?_ | with_reducible refine wpAny_loadPart_at lie ?_ | wp_step)
  refine codeAny_call_builtin_code (Code.quiet_builtin _ Fx.quiet) (look_new Fx same lie (laid_new Fx same lie few (?_ : wpAny _ _ _ _ _ _)))
  have stay : ∀ b u, ho.get? b = some u → ((ho.push (PySem.W.kdv_tup ar)).push (excO C ho.objs.size)).get? b = some u := fun b u z => Heap.get?_push_of_some _ (Heap.get?_push_of_some _ z)
  have here : ((ho.push (PySem.W.kdv_tup ar)).push (excO C ho.objs.size)).get? (ho.objs.size + 1) = some (excO C ho.objs.size) := by heap_get
  have own : (Value.ref C :: bm).contains (.ref C) = true := by simp
  have lie2 := stay _ _ lie
  unfold isInstance
  repeat (first | (with_reducible refine wpAny_isSubtype_exc lie2 ?_; rw [own]) | with_reducible refine wpAny_loadPart_at here ?_ | wp_step)
  refine (?_ : wpAny _ _ (typeLookup (.ref C) _) _ _ _)
  refine (init.keeps stay).at (wpAny_holding (wpAny_bind (((bound (.ref (ho.objs.size + 1))).keeps stay).at (wpAny_bind (wpAny_call (codeAny_mono go fun r s' z => ?_))))))
  rcases r with u | (v | _ | _ | _) <;> first | exact z.elim | exact z | skip
  rcases z with ⟨rfl, z⟩
  first | exact wpAny_pure (wpAny_pure z) | (wp_walk; exact z)
set_option maxHeartbeats 2000000 in
theorem call_new {Re : Result → Shared → Prop} {fI : Addr} (Fx : ExcBaseFacts Bn nI iI bB) (same : ∀ Y : String, bm.contains (.type Y) = bB.contains (.type Y)) (lie : ho.get? C = some (excClassObj nm qn C Nd bs bm hd sn sb ab co di j0 j1 j2 j3 j5 nI)) (init : W.Looks (model pr w) ho (typeLookup (.ref C) "__init__") (some (.ref fI)))
    (bound : ∀ self, W.Looks (model pr w) ho (bindSpecial (.ref fI) self) (.ref fI, [self])) (few : ar.length ≤ sizeLine)
    (go : codeAny (model pr w) (Ar.under (.builtin "type.__call__" ⟨.ref C :: ar, kw⟩)) (.call (.ref fI) ⟨.ref (ho.objs.size + 1) :: ar, kw⟩) (W.InitBack (ho.objs.size + 1) Re) ⟨(ho.push (PySem.W.kdv_tup ar)).push (excO C ho.objs.size), gs, dr, tk, so⟩) :
    codeAny (model pr w) Ar (.call (.ref C) ⟨ar, kw⟩) Re ⟨ho, gs, dr, tk, so⟩ := by
  have a1 := tc_lookup
  have a2 := tc_bind (.ref C)
  have ty : (⟨ho, gs, dr, tk, so⟩ : Shared).TypeIs (.ref C) "type" := ⟨_, lie, rfl⟩
  refine codeAny_of_tree (?_ : wpAny _ _ (callAny (.ref C) _) _ _ _)
  repeat (any_goals (first | with_reducible refine wpAny_loadPart_at lie ?_ | assumption | wp_step))
  refine ⟨rfl, codeAny_call_builtin_at (Code.quiet_builtin _ (by decide +kernel)) entry_typeCall (wpAny_check_type_call_sub lie (called_new Fx same lie init bound few (codeAny_mono go fun r s' z => ?_)))⟩
  rcases r with u | (v | _ | _ | _) <;> exact z
end
end Tc.Xk
/-! exceptions of the text as values: the rules -/
namespace Tc
open PySem PySem.Spec L2 L2H PyProof.Rows Evl NdefX
section
variable {X : Cx} {CX : CXT} {C fI : Addr} {k : Nat} {fd : FuncData} {ps ks : List Str} {sp : Sp} {x : Str} {p pos : Pos} {e : Expr} {es : List Expr} {kws : List Keyword} {t tk : TA}
set_option maxHeartbeats 2000000 in
theorem run_val {pins : List (Addr × Obj)} {σ : L2.St} {H : Hp} {s : Shared} {Q : VK} {us full : List Value} {kw : List (Str × Value)} {fv : List V} (T : OexC X.K C) (iC : PySem.W.findIn X.K (.ref C) "__init__" = some (some (.ref fI))) (tI : PySem.W.typeIn X.K (.ref fI) = some (.type "function"))
    (F1 : FnOk X.prog X.w X.K X.mg X.base CX k fI fd ps sp) (hr : Room (k + 1) X.A) (hx : Passes CX X (fun _ _ _ => False)) (I : Inv X pins σ H s) (few : us.length ≤ sizeLine)
    (hb : ∀ (s' : Shared) (a : Addr), X.K.In s'.heap → (Value.ref a :: full).length = ps.length → BindsTo s' fd ⟨.ref a :: us, kw⟩ (ps.zip (.ref a :: full))) (rf : Vals fv full)
    (h : ∀ a, H a = none → sp (.ref a :: fv) (upd H a (exo a C none)) (fun v H2 => v = .non ∧ Q (.ref a) H2) (fun _ _ _ => False)) :
    wpAny (model X.prog X.w) X.A (call (.ref C) us kw) (EP X pins σ Q) X.xe s := by
  rcases T.cls with ⟨_, _, _, _, bm, _, _, _, _, _, _, _, _, _, _, hC, vb⟩
  rcases s with ⟨h1, gs, dr, tk, os⟩
  have lt : h1.objs.size ≤ h1.objs.size + 1 := Nat.le_succ _
  have qa := h (h1.objs.size + 1) (I.hok.fresh lt)
  have kk : ∀ b o, h1.get? b = some o → ((h1.push (PySem.W.kdv_tup us)).push (PySem.HandSPX.excO C h1.objs.size)).get? b = some o := fun b o z => Heap.get?_push_of_some _ (Heap.get?_push_of_some _ z)
  have at1 : ((h1.push (PySem.W.kdv_tup us)).push (PySem.HandSPX.excO C h1.objs.size)).get? (h1.objs.size + 1) = some (PySem.HandSPX.excO C h1.objs.size) := by heap_get
  have I2 : Inv X pins σ (upd H (h1.objs.size + 1) (exo (h1.objs.size + 1) C none)) ⟨(h1.push (PySem.W.kdv_tup us)).push (PySem.HandSPX.excO C h1.objs.size), gs, dr, tk, os⟩ := I.laid (t' := tk) kk lt (exo_ok at1)
  have r2 : Vals (.ref (h1.objs.size + 1) :: fv) (.ref (h1.objs.size + 1) :: full) := .cons rfl rf
  have B := hb ⟨(h1.push (PySem.W.kdv_tup us)).push (PySem.HandSPX.excO C h1.objs.size), gs, dr, tk, os⟩ (h1.objs.size + 1) I2.kIn (by
    rw [← r2.length]
    exact F1.len _ _ _ _ qa)
  refine wpAny_call (Xk.call_new F.excBase_ValueError (fun Y => PySem.HandSPX.refsVE_contains Y bm vb) (I.kIn _ _ hC) (PySem.W.looks_findIn I.kIn iC) (fun a => PySem.W.bind_fn I.kIn a tI) few (codeAny_mono (F1.run _ X.stack _ _ ⟨_, kw⟩ _ _ _ (fun _ _ _ => False) (hr.make C us kw) (I2.env0.make C us kw) B r2 qa) fun r s' z => ?_))
  cases r with
  | error u => exact hx pins σ _ _ u s' I2 z
  | ok fl =>
    cases fl with
    | ret u =>
      obtain ⟨v, G, J, rv, ev, go⟩ := I2.after z
      subst ev
      exact ⟨rv, ⟨V.ref (h1.objs.size + 1), G, J, rfl, go⟩⟩
    | next => exact z.elim
    | brk => exact z.elim
    | cont => exact z.elim
/-- C(e, ..) as a value -/
def tVal (C : Addr) (sp : Sp) (dvs : List V) (t : TA) : TE := fun σ H Q => t σ H fun vs H1 => vs.length ≤ 1000 ∧ ∀ a, H1 a = none → sp (.ref a :: (vs ++ dvs)) (upd H1 a (exo a C none)) (fun v H2 => v = .non ∧ Q (.ref a) H2) (fun _ _ _ => False)
theorem pe_val {dvs : List V} (d : OwnED X.prog X.w X.K X.mg X.base x C ps dvs k sp) {j : Nat} (hr : Room j X.A) (hj : k + 1 ≤ j) (hg : Gl X x) (ha : PA X (e :: es) t)
    (hdb : (x == ("__debug__" : Str)) = false := by decide) (he : starEach (e :: es) X.env = (false, eval e X.env) :: starEach es X.env := by rfl) (hpl : (backTo pos (starEach es X.env)).any (·.1) = false := by rfl) :
    PE X (.Call (.Name x p) (e :: es) [] pos) (tVal C sp dvs t) := by
  obtain ⟨f, fd, ds, F, T, i, ty, hm, hb, hd⟩ := d
  refine ⟨fun pins s σ H Q I want => wpAny_Call_Name_kw (ld_glob I hg hm (PySem.W.callWith_K (h₀ := X.base) I.mod.kin T.kC (thn (ha.run pos pins s σ H _ I want) fun us s1 z => ?_) he hpl) hdb)⟩
  obtain ⟨vs, H1, I1, r, few, go⟩ := z
  refine ⟨I1.kIn, (?_ : wpAny _ _ (call (.ref C) us) _ _ _)⟩
  refine run_val (us := us) (kw := []) (full := us ++ ds) (fv := vs ++ dvs) T i ty F (hr.mono hj) pass0 I1 (by rw [← r.length, sizeLine_eq]; omega) (fun s' a X' l => ?_) (r.append hd) go
  exact hb s' (.ref a :: us) X' l
theorem pe_val0 {dvs : List V} (d : OwnED X.prog X.w X.K X.mg X.base x C ps dvs k sp) {j : Nat} (hr : Room j X.A) (hj : k + 1 ≤ j) (hg : Gl X x)
    (hdb : (x == ("__debug__" : Str)) = false := by decide) : PE X (.Call (.Name x p) [] [] pos) (tVal C sp dvs tNil) := by
  obtain ⟨f, fd, ds, F, T, i, ty, hm, hb, hd⟩ := d
  refine ⟨fun pins s σ H Q I want => wpAny_Call_Name_kw (ld_glob I hg hm (PySem.W.callWith_K0 I.kIn T.kC ?_) hdb)⟩
  obtain ⟨few, go⟩ := want
  refine run_val (us := []) (full := ds) (fv := dvs) T i ty F (hr.mono hj) pass0 I (Nat.zero_le _) (fun s' a X' l => ?_) hd go
  exact hb s' [.ref a] X' l
/-- an exception of the text under its name, its one parameter told by its name -/
def OwnEK (P : Program) (w : World) (K : PySem.W.Frag) (mg : Str → Option Value) (base : Heap) (x : Str) (C : Addr) (f0 : Str) (k : Nat) (sp : Sp) : Prop :=
  ∃ (f : Addr) (fd : FuncData), FnOk P w K mg base CX0 k f fd ["self", f0] sp ∧ OexC K C ∧ PySem.W.findIn K (.ref C) "__init__" = some (some (.ref f)) ∧ PySem.W.typeIn K (.ref f) = some (.type "function") ∧ mg x = some (.ref C) ∧ KBn K fd ["self", f0] 1 [f0] (fun us ws => us ++ ws) (fun vs zs => vs ++ zs)
/-- C(f = e) as a value -/
def tValK (C : Addr) (sp : Sp) (te : TA) : TE := fun σ H Q => te σ H fun zs H1 => zs.length = 1 ∧ ∀ a, H1 a = none → sp (.ref a :: zs) (upd H1 a (exo a C none)) (fun v H2 => v = .non ∧ Q (.ref a) H2) (fun _ _ _ => False)
theorem pe_valK {f0 : Str} (d : OwnEK X.prog X.w X.K X.mg X.base x C f0 k sp) {j : Nat} (hr : Room j X.A) (hj : k + 1 ≤ j) (hg : Gl X x) (hkw : PK X kws tk)
    (hall : (backToKw pos (keywordEach kws X.env)).all (·.1.isSome) = true := by rfl) (hks : (backToKw pos (keywordEach kws X.env)).filterMap (·.1) = [f0] := by rfl) (hdb : (x == ("__debug__" : Str)) = false := by decide)
    (hpl : ((backTo pos (starEach [] X.env)).any (·.1) || (backToKw pos (keywordEach kws X.env)).any (·.1.isNone)) = false := by rfl) :
    PE X (.Call (.Name x p) [] kws pos) (tValK C sp tk) := by
  obtain ⟨f, fd, F, T, i, ty, hm, hb⟩ := d
  refine ⟨fun pins s σ H Q I want => wpAny_Call_Name_kw (ld_glob I hg hm (PySem.W.callWith_KW0 (h₀ := X.base) I.mod.kin T.kC hall (thn (hkw.run pos pins s σ H _ I want) fun ws s2 z => ?_) hpl) hdb)⟩
  obtain ⟨zs, H2, I2, rz, l1, go⟩ := z
  refine ⟨I2.kIn, ?_⟩
  rw [hks]
  refine run_val (us := []) (full := ws) (fv := zs) T i ty F (hr.mono hj) pass0 I2 (Nat.zero_le _) (fun s' a X' l => ?_) rz go
  exact hb.to s' [.ref a] ws X' rfl (by rw [← rz.length, l1]; rfl)
end
end Tc
/-! names of classes in a tuple -/
namespace Tc
open PySem L2 L2H PyProof.Rows Evl
/-- a rule that is wanted on one way alone -/
def tXc (c : Prop) (te : TE) : TE := fun σ H Q => c ∧ te σ H Q
theorem pe_c {X : Cx} {e : Expr} {te : TE} {c : Prop} (h : c → PE X e te) : PE X e (tXc c te) := ⟨fun pins s σ H Q I w => (h w.1).run pins s σ H Q I w.2⟩
/-- names of classes, and whether D is one of them -/
inductive ClsAt (X : Cx) (D : Addr) : List Expr → List Addr → Bool → Prop
  | nil : ClsAt X D [] [] false
  | cons {x : Str} {p : Pos} {b r : Bool} {es : List Expr} {cs : List Addr} (g : Gl X x) (hd : (x == ("__debug__" : Str)) = false) (hm : ∃ c, X.mg x = some (.ref c) ∧ PySem.W.kitOne X.K (.ref D) (.ref c) = some b) (t : ClsAt X D es cs r) : ClsAt X D (.Name x p :: es) (Classical.choose hm :: cs) (b || r)
theorem ClsAt.any {X : Cx} {D : Addr} {es : List Expr} {cs : List Addr} {b : Bool} (h : ClsAt X D es cs b) : PySem.W.kitAny X.K (.ref D) (cs.map Value.ref) = some b := by
  induction h with
  | nil => rfl
  | @cons x p b r es cs g hd hm t ih =>
    have e := (Classical.choose_spec hm).2
    rw [List.map_cons, PySem.W.kitAny, e]
    cases b with
    | true => rfl
    | false => exact ih
end Tc
/-! exceptions of the text as values: told apart, their fields read -/
namespace Tc
open PySem PySem.Spec L2 L2H PyProof.Rows Evl NdefX
/-- an exception of the class D at a, its fields fs -/
def ExA (H : Hp) (a D : Addr) (fs : List (Str × V)) : Prop := (∃ d, H a = some (exo a D (some d)) ∧ H d = some (exd d fs)) ∨ (fs = [] ∧ H a = some (ExO (.ref D) a))
theorem ExA.ex {H H' : Hp} {a D : Addr} {fs : List (Str × V)} (x : Ex H H') (h : ExA H a D fs) : ExA H' a D fs := by
  rcases h with ⟨d, h1, h2⟩ | ⟨e, h1⟩
  · exact .inl ⟨d, x _ _ h1, x _ _ h2⟩
  · exact .inr ⟨e, x _ _ h1⟩
section
variable {X : Cx} {pins : List (Addr × Obj)} {σ : L2.St} {H : Hp} {s : Shared} {a D : Addr} {fs : List (Str × V)}
theorem ExA.inst (I : Inv X pins σ H s) (h : ExA H a D fs) : ∃ oe od, PySem.W.InstAt s.heap a oe D od ∧ ∀ n v, fs.lookup n = some v → ∃ ob u, od = some ob ∧ PySem.W.lookIn n ob = some (some u) ∧ RelV v u := by
  rcases h with ⟨d, h1, h2⟩ | ⟨rfl, h1⟩
  · obtain ⟨t1, he⟩ := exo_at I.hok h1
    obtain ⟨mA, hn, rel⟩ := exd_at I.hok h2
    obtain ⟨ob, hob, look⟩ := lookIn_ns hn
    refine ⟨_, some ob, ⟨he, rfl, rfl, hob⟩, fun n v e => ?_⟩
    obtain ⟨u, hu, ru⟩ := RelO.some_of (v := v) (o := mA n) (by rw [← e]; exact rel n)
    exact ⟨ob, u, rfl, by rw [look, hu], ru⟩
  · obtain ⟨⟨oe, vs, he, hz, hd, _⟩, _, _⟩ := I.hok a _ h1
    refine ⟨oe, none, ⟨he, hz.1, by unfold PySem.W.notCls; rw [hd], by rw [hz.2]; trivial⟩, fun n v e => by cases e⟩
/-- isinstance(e, c) -/
def rIsO (K : PySem.W.Frag) (D : Addr) : List V → Hp → VK → Prop := fun xs H Q => ∃ (a : Addr) (fs : List (Str × V)) (c : V) (cv : Value) (b : Bool), xs = [.ref a, c] ∧ ExA H a D fs ∧ (∀ u, RelV c u → u = cv) ∧ PySem.W.kitOne K (.ref D) cv = some b ∧ Q (.bl b) H
theorem call_isO (C : ExK X.K D) : CallR X (.builtin "isinstance") (rIsO X.K D) := by
  intro pins s σ H xs us Q I r h
  obtain ⟨a, fs, c, cv, b, rfl, hx, hcv, e, q⟩ := h
  match us, r with
  | [_, u], .cons r1 (.cons r2 .nil) =>
    cases r1
    obtain rfl := hcv u r2
    obtain ⟨oe, od, J, _⟩ := hx.inst I
    exact PySem.W.kia_one (PySem.W.kitx_exc C.cl C.ga C.gt C.sb C.ca C.cg C.tc C.mo) I.kIn J e (fun z => nomatch z) fun tk => ⟨.bl b, H, I.kept (t' := tk) fun _ _ z => z, rfl, q⟩
/-- isinstance(e, (A, ..)) -/
def rIsOT (K : PySem.W.Frag) (D : Addr) : List V → Hp → VK → Prop := fun xs H Q => ∃ (a : Addr) (fs : List (Str × V)) (t : Addr) (cs : List Addr) (b : Bool), xs = [.ref a, .ref t] ∧ ExA H a D fs ∧ SqT K H t (cs.map V.ref) ∧ PySem.W.kitAny K (.ref D) (cs.map Value.ref) = some b ∧ Q (.bl b) H
theorem call_isOT (C : ExK X.K D) : CallR X (.builtin "isinstance") (rIsOT X.K D) := by
  intro pins s σ H xs us Q I r h
  obtain ⟨a, fs, t, cs, b, rfl, hx, ht, e, q⟩ := h
  match us, r with
  | [_, u], .cons r1 (.cons r2 .nil) =>
    cases r1
    obtain rfl : u = Value.ref t := r2
    obtain ⟨its, rv, ⟨⟨c0, dd, dat, sl⟩, ho, hc, n, hdat⟩, _⟩ := I.tuple ht
    obtain rfl := refs_at rv
    dsimp only at hc hdat
    subst hc
    subst hdat
    obtain ⟨oe, od, J, _⟩ := hx.inst I
    exact PySem.W.kia_tup (PySem.W.kitx_exc C.cl C.ga C.gt C.sb C.ca C.cg C.tc C.mo) I.kIn J ho e (fun z => nomatch z) fun tk => ⟨.bl b, H, I.kept (t' := tk) fun _ _ z => z, rfl, q⟩
/-- e.n -/
def tXo (D : Addr) (n : Str) (te : TE) : TE := fun σ H Q => te σ H fun x H1 => ∃ (a : Addr) (fs : List (Str × V)) (v : V), x = .ref a ∧ ExA H1 a D fs ∧ fs.lookup n = some v ∧ Q v H1
theorem pe_xo {e : Expr} {te : TE} {pos : Pos} {n : Str} (T : XfC X.K D) (hno : PySem.W.findIn X.K (.ref D) n = some none) (he : PE X e te)
    (hb : attributeBase e n X.env (eval e X.env) = eval e X.env := by rfl) : PE X (.Attribute e n pos) (tXo D n te) := by
  refine ⟨fun pins s σ H Q I want => attr_of hb (thn (he.run pins s σ H _ I want) fun u s1 z => ?_)⟩
  obtain ⟨x, H1, I1, rx, a, fs, v, rfl, hx, hl, go⟩ := z
  obtain rfl : u = Value.ref a := rx
  obtain ⟨oe, od, J, look⟩ := hx.inst I1
  obtain ⟨ob, uv, rfl, hu, ru⟩ := look n v hl
  exact HandSPX.exc_get I1.kIn J T.ga T.gg T.exC (PySem.W.findObj_own T.hdC hno rfl hu) (handed_of ru) ⟨v, H1, I1.tok _, ru, go⟩
/-- isinstance(e, A) as a rule -/
abbrev tIo (K : PySem.W.Frag) (D c : Addr) (te : TE) : TE := tCB (rIsO K D) (tCons te (tCons (tC (.ref c)) tNil))
theorem pe_io {x : Str} {b : Bool} {e : Expr} {te : TE} {p p2 pos : Pos} (C : ExK X.K D) (gi : Gl X "isinstance") (ni : X.mg "isinstance" = none) (g : Gl X x) (hm : ∃ c, X.mg x = some (.ref c) ∧ PySem.W.kitOne X.K (.ref D) (.ref c) = some b) (he : PE X e te)
    (hd : (x == ("__debug__" : Str)) = false := by decide) (hs : starEach [e, .Name x p2] X.env = (false, eval e X.env) :: starEach [.Name x p2] X.env := by rfl) (hs2 : starEach [.Name x p2] X.env = (false, eval (.Name x p2) X.env) :: starEach [] X.env := by rfl) (hpl : (backTo pos (starEach [.Name x p2] X.env)).any (·.1) = false := by rfl) : PE X (.Call (.Name "isinstance" p) [e, .Name x p2] [] pos) (tIo X.K D (Classical.choose hm) te) :=
  pe_callB (pos := pos) (p := p) (call_isO C) gi ni boot_isinstance (pa_cons he (pa_cons (pe_glob (pos := p2) (v := .ref (Classical.choose hm)) g (Classical.choose_spec hm).1 rfl hd) pa_nil hs2) hs) (he := hs) (hpl := hpl)
theorem ev_io {K : PySem.W.Frag} {mg : Str → Option Value} {x : Str} {b : Bool} {te : TE} (hm : ∃ c, mg x = some (.ref c) ∧ PySem.W.kitOne K (.ref D) (.ref c) = some b) (h : Ev te σ H (.ref a)) (hx : ExA H a D fs) : Ev (tIo K D (Classical.choose hm) te) σ H (.bl b) := fun H1 x1 Q q =>
  h H1 x1 _ fun H2 x2 => ⟨a, fs, _, _, b, rfl, hx.ex (x1.trans x2), fun u z => z, (Classical.choose_spec hm).2, q H2 x2⟩
/-- isinstance(e, ValueError) -/
abbrev tIoV (K : PySem.W.Frag) (D : Addr) (te : TE) : TE := tCB (rIsO K D) (tCons te (tCons (tC (.ty "ValueError")) tNil))
theorem pe_ioV {e : Expr} {te : TE} {p p2 pos : Pos} (C : ExK X.K D) (gi : Gl X "isinstance") (ni : X.mg "isinstance" = none) (g : Gl X "ValueError") (hm : X.mg "ValueError" = none) (he : PE X e te)
    (hs : starEach [e, .Name "ValueError" p2] X.env = (false, eval e X.env) :: starEach [.Name "ValueError" p2] X.env := by rfl) (hs2 : starEach [.Name "ValueError" p2] X.env = (false, eval (.Name "ValueError" p2) X.env) :: starEach [] X.env := by rfl) (hpl : (backTo pos (starEach [.Name "ValueError" p2] X.env)).any (·.1) = false := by rfl) : PE X (.Call (.Name "isinstance" p) [e, .Name "ValueError" p2] [] pos) (tIoV X.K D te) :=
  pe_callB (pos := pos) (p := p) (call_isO C) gi ni boot_isinstance (pa_cons he (pa_cons (pe_bltn (pos := p2) (v := .ty "ValueError") g hm PyProof.Rows.Boot.«ValueError» rfl) pa_nil hs2) hs) (he := hs) (hpl := hpl)
theorem ev_ioV {K : PySem.W.Frag} {b : Bool} {te : TE} (hk : PySem.W.kitOne K (.ref D) (.type "ValueError") = some b) (h : Ev te σ H (.ref a)) (hx : ExA H a D fs) : Ev (tIoV K D te) σ H (.bl b) := fun H1 x1 Q q =>
  h H1 x1 _ fun H2 x2 => ⟨a, fs, _, .type "ValueError", b, rfl, hx.ex (x1.trans x2), fun u z => z, hk, q H2 x2⟩
def taC : List Addr → TA
  | [] => tNil
  | c :: cs => tCons (tC (.ref c)) (taC cs)
theorem taC_go {Q : List V → Hp → Prop} : ∀ (cs : List Addr) {σ : L2.St} {H : Hp} {Q : List V → Hp → Prop}, Q (cs.map V.ref) H → taC cs σ H Q
  | [], _, _, _, q => q
  | c :: cs, σ, H, Q, q => taC_go (Q := fun vs G => Q (.ref c :: vs) G) cs q
theorem ClsAt.paC {es : List Expr} {cs : List Addr} {b : Bool} (h : ClsAt X D es cs b) (hst : ∀ x (p : Pos) rest, starEach (.Name x p :: rest) X.env = (false, eval (.Name x p) X.env) :: starEach rest X.env) : PA X es (taC cs) := by
  induction h with
  | nil => exact pa_nil
  | @cons x p b r es cs g hd hm t ih => exact pa_cons (pe_glob (v := .ref (Classical.choose hm)) g (Classical.choose_spec hm).1 rfl hd) ih (hst _ _ _)
theorem any_nil {K : PySem.W.Frag} : PySem.W.kitAny K (.ref D) (([] : List Addr).map Value.ref) = some false := rfl
theorem any_cons {K : PySem.W.Frag} {mg : Str → Option Value} {x : Str} {b r : Bool} {cs : List Addr} (hm : ∃ c, mg x = some (.ref c) ∧ PySem.W.kitOne K (.ref D) (.ref c) = some b) (h : PySem.W.kitAny K (.ref D) (cs.map Value.ref) = some r) : PySem.W.kitAny K (.ref D) ((Classical.choose hm :: cs).map Value.ref) = some (b || r) := by
  rw [List.map_cons, PySem.W.kitAny, (Classical.choose_spec hm).2]
  cases b with
  | true => rfl
  | false => exact h
/-- isinstance(e, (A, B, ..)) as a rule -/
theorem pe_ioT {e : Expr} {te : TE} {p p2 pos : Pos} {k2} {es : List Expr} {cs : List Addr} {b : Bool} (C : ExK X.K D) (gi : Gl X "isinstance") (ni : X.mg "isinstance" = none) (hst : ∀ x (p : Pos) rest, starEach (.Name x p :: rest) X.env = (false, eval (.Name x p) X.env) :: starEach rest X.env) (he : PE X e te) (h : ClsAt X D es cs b)
    (hs : starEach [e, .Tuple es k2 p2] X.env = (false, eval e X.env) :: starEach [.Tuple es k2 p2] X.env := by rfl) (hs2 : starEach [.Tuple es k2 p2] X.env = (false, eval (.Tuple es k2 p2) X.env) :: starEach [] X.env := by rfl) (hpl : (backTo pos (starEach [.Tuple es k2 p2] X.env)).any (·.1) = false := by rfl) :
    PE X (.Call (.Name "isinstance" p) [e, .Tuple es k2 p2] [] pos) (tCB (rIsOT X.K D) (tCons te (tCons (tTup (taC cs)) tNil))) :=
  pe_callB (pos := pos) (p := p) (call_isOT C) gi ni boot_isinstance (pa_cons he (pa_cons (pe_tup (h.paC hst)) pa_nil hs2) hs) (he := hs) (hpl := hpl)
theorem ev_ioT {K : PySem.W.Frag} {te : TE} {cs : List Addr} {b : Bool} (h : PySem.W.kitAny K (.ref D) (cs.map Value.ref) = some b) (hn : cs.length ≤ 1000) (hv : Ev te σ H (.ref a)) (hx : ExA H a D fs) : Ev (tCB (rIsOT K D) (tCons te (tCons (tTup (taC cs)) tNil))) σ H (.bl b) := fun H1 x1 Q q =>
  hv H1 x1 _ fun H2 x2 => taC_go (Q := fun _ _ => True) cs ⟨sz_of (by rw [List.length_map]; omega), fun tp htp => ⟨a, fs, tp, cs, b, rfl, hx.ex (x1.trans (x2.trans (Ex.new htp))), st_of upd_same, h, q _ (x2.trans (Ex.new htp))⟩⟩
end
end Tc
/-! what the top leaves, looked at once: defs, classes, exceptions -/
namespace Tc
open PySem PySem.Spec PyProof.Rows L2 He
def rfsO (g : Addr → Option Obj) (a : Addr) : List Addr := match g a with
  | some o => (match o.data with
    | .seq its _ => its.toList.flatMap refV
    | .dict es _ => es.toList.flatMap fun e => refV e.val
    | .func fd => refV fd.code ++ (refV fd.defaults ++ (refV fd.kwdefaults ++ fd.closure.map (·.2)))
    | .cls cd => cd.ns :: cd.mro.flatMap refV
    | _ => [])
  | none => []
/-- by steps from what is known -/
def reach (g : Addr → Option Obj) : Nat → List Addr → List Addr → List Addr
  | 0, seen, fr => seen ++ fr
  | n + 1, seen, fr => reach g n (seen ++ fr) (((fr.flatMap (rfsO g)).eraseDups).filter fun a => !(seen.contains a || fr.contains a))
abbrev FnC : Type := Option (Str × Str × Arguments × FuncBody × Scope × Addr × List Str × Addr)
def xcW (K : PySem.W.Frag) (x : Str) : FnC := match K.lookup (ma K (ga K x) "__init__") with
  | some ⟨_, _, .func fd, _⟩ => some (fd.name, fd.qualname, fd.params, fd.body, fd.scope, fd.globals, fd.closure.map (·.1), fd.builtins)
  | _ => none
/-- an exception's own __init__ -/
structure XcD where
  cls : Str
  qual : Str
  params : Arguments
  body : List Stmt
  scope : Scope
def XcD.val (d : XcD) : FnC := some ("__init__", d.qual, d.params, .stmts d.body, d.scope, mainGlobals, ["__class__"], builtinsNs)
def clsObjB (K : PySem.W.Frag) (C : Addr) : Bool := match K.lookup C with
  | some ⟨.type t, _, .cls cd, sl⟩ => (match cd.mro, sl.toList with
    | .ref C' :: bm, [_, _, _, _, some (.builtin n), _] => decide (t = "type") && (decide (C' = C) && (decide (n = "ValueError.__new__") && (!cd.hasDel && (cd.hasDict && PySem.HandSPX.refsVE bm))))
    | _, _ => false)
  | _ => false
theorem clsObjB_ok {K : PySem.W.Frag} {C : Addr} (h : clsObjB K C = true) : ∃ nm q N bs bm sn sub ab col dd k0 k1 k2 k3 k5, K.lookup C = some (excClassObj nm q C N bs bm true sn sub ab col dd k0 k1 k2 k3 k5 "ValueError.__new__") ∧ PySem.HandSPX.refsVE bm = true := by
  unfold clsObjB at h
  split at h
  · rename_i t dd cd sl hl
    split at h
    · rename_i C' bm k0 k1 k2 k3 n k5 hm hs
      obtain ⟨h1, h⟩ := ba h
      obtain ⟨h2, h⟩ := ba h
      obtain ⟨h3, h⟩ := ba h
      obtain ⟨h4, h⟩ := ba h
      obtain ⟨h5, h6⟩ := ba h
      have e1 := of_decide_eq_true h1
      have e2 := of_decide_eq_true h2
      have e3 := of_decide_eq_true h3
      have es : sl = #[k0, k1, k2, k3, some (.builtin n), k5] := by
        rw [← Array.toList_inj]
        exact hs
      obtain ⟨nm, bs, mro, ns, q, hasD, sn, sub, ab, col, hasDel⟩ := cd
      dsimp only at hm h4 h5
      have e4 : hasDel = false := by
        cases hasDel with
        | false => rfl
        | true => cases h4
      subst e1 e2 e3 es hm h5 e4
      exact ⟨nm, q, ns, bs, bm, sn, sub, ab, col, dd, k0, k1, k2, k3, k5, hl, h6⟩
    · cases h
  · cases h
def xcB (K : PySem.W.Frag) (file x fld : Str) (fl : List Bool) : Bool :=
  eqO (PySem.W.nsIn K mainGlobals x) (some (some (.ref (ga K x)))) && (clsObjB K (ga K x) && (oexB K (ga K x) && (excB K (ga K x) fl && (eqO (PySem.W.findIn K (.ref (ga K x)) "__init__") (some (some (.ref (ma K (ga K x) "__init__")))) &&
  (decide (PySem.W.typeIn K (.ref (ma K (ga K x) "__init__")) = some (.type "function")) && (eqO (PySem.W.findIn K (.ref (ga K x)) fld) (some none) && (match K.lookup (ma K (ga K x) "__init__") with
    | some ⟨_, _, .func fd, _⟩ => (match fd.defaults, fd.code, fd.closure with
      | .none, .ref A, [(_, W)] => PySem.W.codeIn K (.ref A) fd.qualname && (supB K file (ga K x) A && (match K.lookup W with
        | some ⟨_, _, .cell (some (.ref C')), _⟩ => decide (C' = ga K x)
        | _ => false))
      | _, _, _ => false)
    | _ => false)))))))
/-- all that an exception of the text is known for -/
structure XcOk (P : Program) (K : PySem.W.Frag) (mg : Str → Option Value) (d : XcD) (fld : Str) (fl : List Bool) (C I W A : Addr) : Prop where
  T : OexC K C
  E : ExC K mg d.cls C fl
  Z : SupF P K mg C A
  iC : PySem.W.findIn K (.ref C) "__init__" = some (some (.ref I))
  tI : PySem.W.typeIn K (.ref I) = some (.type "function")
  F : ∃ oc od sl kv dc pm an ct, K.lookup I = some ⟨oc, od, .func (PySem.W.fnX "__init__" d.qual d.params d.body d.scope [("__class__", W)] .none kv dc pm an (.ref A) ct), sl⟩
  cd : PySem.W.codeIn K (.ref A) d.qual = true
  cW : ∃ ol : Obj, K.lookup W = some ol ∧ ol.data = .cell (some (.ref C))
  no : PySem.W.findIn K (.ref C) fld = some none
  mgC : mg d.cls = some (.ref C)
theorem xc_ok {P : Program} {K : PySem.W.Frag} {h : Heap} {mg : Str → Option Value} {d : XcD} {fld : Str} {fl : List Bool} (X : K.In h) (G : h.Ns mainGlobals mg) (top : (P.main.scope.names.lookup ("super" : Str)).isSome = false) (e : xcW K d.cls = d.val) (c : xcB K P.main.file d.cls fld fl = true) : ∃ I W A, XcOk P K mg d fld fl (ga K d.cls) I W A := by
  unfold xcB at c
  obtain ⟨c1, c⟩ := ba c
  obtain ⟨c2, c⟩ := ba c
  obtain ⟨c3, c⟩ := ba c
  obtain ⟨c4, c⟩ := ba c
  obtain ⟨c5, c⟩ := ba c
  obtain ⟨c6, c⟩ := ba c
  obtain ⟨c7, c8⟩ := ba c
  have a1 := eqO_ok c1
  obtain ⟨nm, q, N, bs, bm, sn, sub, ab, col, dd, k0, k1, k2, k3, k5, xL, xR⟩ := clsObjB_ok c2
  unfold xcW at e
  cases hl : K.lookup (ma K (ga K d.cls) "__init__") with
  | none =>
    rw [hl] at c8
    cases c8
  | some o =>
    obtain ⟨oc, od, dt, osl⟩ := o
    rw [hl] at c8 e
    cases dt with
    | func fd =>
      obtain ⟨n1, n2, n3, n4, n5, n6, n7, n8, n9, n10, n11, n12, n13, n14, n15⟩ := fd
      have e2 : (some (n1, n2, n3, n4, n5, n6, n7.map (·.1), n15) : FnC) = some (("__init__" : Str), d.qual, d.params, FuncBody.stmts d.body, d.scope, mainGlobals, [("__class__" : Str)], builtinsNs) := e
      simp only [Option.some.injEq, Prod.mk.injEq] at e2
      obtain ⟨h1, h2, h3, h4, h5, h6, h7, h8⟩ := e2
      subst h1 h2 h3 h4 h5 h6 h8
      dsimp only at c8
      split at c8
      · rename_i A s W
        have h7' : s = "__class__" := (List.cons.inj h7).1
        subst h7'
        obtain ⟨d1, c9⟩ := ba c8
        obtain ⟨d2, d3⟩ := ba c9
        refine ⟨_, W, A, oexB_ok xL xR c3, excB_ok X G a1 c4, supB_ok X G top d2, eqO_ok c5, of_decide_eq_true c6, ⟨oc, od, osl, _, _, _, _, _, hl⟩, d1, ?_, eqO_ok c7, PySem.W.mg_of X G a1⟩
        split at d3
        · rename_i w0 w1 C' w2 hw
          rw [of_decide_eq_true d3] at hw
          exact ⟨_, hw, rfl⟩
        · cases d3
      · cases c8
    | _ => cases c8
/-! ### the look -/
abbrev AlM : Type := Bool × List FnW × List FnC
def obsM (fs : List (PySem.W.Frag → Bool)) (fn : List DefD) (xs : List XcD) (K : PySem.W.Frag) : AlM := ((fs.all fun f => f K) && fn.all fun d => d.ok K, fn.map (fun d => fnW K d.at_), xs.map fun x => xcW K x.cls)
def valM (fn : List DefD) (xs : List XcD) : AlM := (true, fn.map DefD.val, xs.map XcD.val)
def SaysM (fs : List (PySem.W.Frag → Bool)) (fn : List DefD) (xs : List XcD) (K : PySem.W.Frag) : Prop := obsM fs fn xs K = valM fn xs
def obsMG (n : Nat) (fs : List (PySem.W.Frag → Bool)) (fn : List DefD) (xs : List XcD) (g : Addr → Option Obj) : AlM := obsM fs fn xs (frG g (reach g n [cStatics] [mainGlobals]))
def hookM (n : Nat) (fs : List (PySem.W.Frag → Bool)) (fn : List DefD) (xs : List XcD) : PySem.W.Hook where
  α := AlM
  obs := fun s => obsMG n fs fn xs s.heap.get?
  val := fun _ => valM fn xs
  says := fun _ h => ∃ K : PySem.W.Frag, K.In h ∧ SaysM fs fn xs K
  of := fun _ _ e => ⟨_, frG_in, e⟩
  keeps := fun _ _ _ ⟨K, hK, c⟩ k => ⟨K, PySem.W.Frag.In.keeps hK k, c⟩
theorem obsMG_eq {n : Nat} {fs : List (PySem.W.Frag → Bool)} {fn : List DefD} {xs : List XcD} {g : Addr → Option Obj} {s : Shared} (h : ∀ a, g a = s.heap.get? a) : obsMG n fs fn xs g = (hookM n fs fn xs).obs s := by
  have e : g = s.heap.get? := funext h
  rw [e] <;> rfl
section
variable {fs : List (PySem.W.Frag → Bool)} {fn : List DefD} {xs : List XcD} {K : PySem.W.Frag}
theorem SaysM.fact (c : SaysM fs fn xs K) (i : Nat) {f : PySem.W.Frag → Bool} (h : fs[i]? = some f := by rfl) : f K = true := by
  have c1 := (ba (show ((fs.all fun f => f K) && fn.all fun d => d.ok K) = true from congrArg (fun z : AlM => z.1) c)).1
  exact List.all_eq_true.mp c1 f (List.mem_of_getElem? h)
theorem SaysM.def_ (c : SaysM fs fn xs K) (i : Nat) {d : DefD} (h : fn[i]? = some d := by rfl) : ∃ fd, FunD K d.name d.qual d.params d.body d.scope (d.dvs K) (d.kws K) (fAd K d.at_) fd := by
  have c2 := (ba (show ((fs.all fun f => f K) && fn.all fun d => d.ok K) = true from congrArg (fun z : AlM => z.1) c)).2
  have e : fn.map (fun d => fnW K d.at_) = fn.map DefD.val := congrArg (fun z : AlM => z.2.1) c
  have e2 : (fn.map fun d => fnW K d.at_)[i]? = (fn.map DefD.val)[i]? := by rw [e]
  rw [List.getElem?_map, List.getElem?_map, h] at e2
  exact DefD.funD (Option.some.inj e2) (List.all_eq_true.mp c2 d (List.mem_of_getElem? h))
theorem SaysM.exc (c : SaysM fs fn xs K) (i : Nat) {d : XcD} (h : xs[i]? = some d := by rfl) : xcW K d.cls = d.val := by
  have e : xs.map (fun x => xcW K x.cls) = xs.map XcD.val := congrArg (fun z : AlM => z.2.2) c
  have e2 : (xs.map fun x => xcW K x.cls)[i]? = (xs.map XcD.val)[i]? := by rw [e]
  rw [List.getElem?_map, List.getElem?_map, h] at e2
  exact Option.some.inj e2
end
/-- a def without defaults by places -/
theorem fun_of {K : PySem.W.Frag} {x qual : Str} {st : Stmt} {kws : List (Str × V)} {f : Addr} {fd : FuncData} (F : FunD K x qual (defArgs st) (defBody st) (defScope st) [] kws f fd) : Fun K x qual st f fd := by
  obtain ⟨oc, od, dV, kV, doc, pm, an, cdv, ct, osl, e, lk, hcd, hD, _⟩ := F.ex
  rcases hD with ⟨_, rfl⟩ | ⟨n, _⟩
  · exact ⟨⟨oc, od, kV, doc, pm, an, cdv, ct, osl, e, lk, hcd⟩, F.kp⟩
  · exact absurd rfl n
end Tc
/-! methods whose last names are left to their defaults, and that may let an exception out -/
namespace Tc
open PySem PySem.Spec PyProof.Rows L2 L2H
end Tc
/-! a house: what one store does to it -/
namespace Tc
open PySem L2 Evl
section
variable {K : PySem.W.Frag} {C R : Addr} {H H' : Hp} {p dW dK dL dR : Addr} {kvs : List (Key × V)} {kept : List V} {l : List (Rdg × Addr × Addr)} {m : HM} {X : Addr → Prop}
structure Apart (p dW dK dL dR : Addr) (l : List (Rdg × Addr × Addr)) : Prop where
  pW : p ≠ dW
  pK : p ≠ dK
  pL : p ≠ dL
  pR : p ≠ dR
  WK : dW ≠ dK
  WL : dW ≠ dL
  WR : dW ≠ dR
  KL : dK ≠ dL
  KR : dK ≠ dR
  LR : dL ≠ dR
  r1 : ∀ t ∈ l, t.2.1 ≠ p ∧ t.2.1 ≠ dW ∧ t.2.1 ≠ dK ∧ t.2.1 ≠ dL ∧ t.2.1 ≠ dR
  r2 : ∀ t ∈ l, t.2.2 ≠ p ∧ t.2.2 ≠ dW ∧ t.2.2 ≠ dK ∧ t.2.2 ≠ dL ∧ t.2.2 ≠ dR
theorem HsB.apart (S : HsB K C R H p dW dK dL dR kvs kept l m) : Apart p dW dK dL dR l := by
  have nd := S.nd
  unfold fpL at nd
  obtain ⟨a1, nd⟩ := List.nodup_cons.mp nd
  obtain ⟨a2, nd⟩ := List.nodup_cons.mp nd
  obtain ⟨a3, nd⟩ := List.nodup_cons.mp nd
  obtain ⟨a4, nd⟩ := List.nodup_cons.mp nd
  obtain ⟨a5, nd⟩ := List.nodup_cons.mp nd
  simp only [List.mem_cons, not_or] at a1 a2 a3 a4
  have inl : ∀ t ∈ l, t.2.1 ∈ l.flatMap (fun t => [t.2.1, t.2.2]) ∧ t.2.2 ∈ l.flatMap (fun t => [t.2.1, t.2.2]) := fun t mt => ⟨List.mem_flatMap.mpr ⟨t, mt, List.mem_cons_self⟩, List.mem_flatMap.mpr ⟨t, mt, List.mem_cons_of_mem _ List.mem_cons_self⟩⟩
  refine ⟨a1.1, a1.2.1, a1.2.2.1, a1.2.2.2.1, a2.1, a2.2.1, a2.2.2.1, a3.1, a3.2.1, a4.1, fun t mt => ?_, fun t mt => ?_⟩
  · have h := (inl t mt).1
    exact ⟨fun z => a1.2.2.2.2 (z ▸ h), fun z => a2.2.2.2 (z ▸ h), fun z => a3.2.2 (z ▸ h), fun z => a4.2 (z ▸ h), fun z => a5 (z ▸ h)⟩
  · have h := (inl t mt).2
    exact ⟨fun z => a1.2.2.2.2 (z ▸ h), fun z => a2.2.2.2 (z ▸ h), fun z => a3.2.2 (z ▸ h), fun z => a4.2 (z ▸ h), fun z => a5 (z ▸ h)⟩
/-- one object of it is stored anew: tuples stay -/
theorem kt_upd {a : Addr} {o : HO} (h : NoT H a) : Kt H (upd H a o) := Kt.but (fun x => x = a) (fun x e => e ▸ h) fun x u n e => by rw [upd_ne n]; exact e
theorem rds_keep {a : Addr} {o : HO} (h : NoT H a) (rd : ∀ t ∈ l, RdAt K R H t.2.1 t.2.2 t.1) (n : ∀ t ∈ l, t.2.1 ≠ a ∧ t.2.2 ≠ a) : ∀ t ∈ l, RdAt K R (upd H a o) t.2.1 t.2.2 t.1 := fun t mt =>
  (rd t mt).keep (fun u e => by rw [upd_ne (n t mt).1]; exact e) (fun u e => by rw [upd_ne (n t mt).2]; exact e) (kt_upd h)
/-- the log made longer -/
theorem HsB.append {v : V} {d : PyData} (S : HsB K C R H p dW dK dL dR kvs kept l m) (hv : Dp K H v d) (hg : goodEn allKs d = true) : HsB K C R (upd H dK (.lst (kept ++ [v]))) p dW dK dL dR kvs (kept ++ [v]) l { m with log := m.log ++ [d] } := by
  have A := S.apart
  have nt := S.noT _ fp_K
  have kt : Kt H (upd H dK (.lst (kept ++ [v]))) := kt_upd nt
  obtain ⟨dx, hp⟩ := S.at'.ob
  refine ⟨⟨⟨dx, by rw [upd_ne A.pK]; exact hp⟩, by rw [upd_ne A.WK]; exact S.at'.wo, upd_same, by rw [upd_ne A.KL.symm]; exact S.at'.li, by rw [upd_ne A.KR.symm]; exact S.at'.ru, S.at'.n1, S.at'.n2, S.at'.n3⟩, S.di, dps_app (kt.dps (fun d m => nl_en (S.go d m)) S.lo) (.cons (kt.dp 3 _ _ (nl_en hg) hv) .nil), fun e me => ?_, S.lv, S.lb, S.rn, S.rp, S.rb, S.rk, rds_keep nt S.rd fun t mt => ⟨(A.r1 t mt).2.2.1, (A.r2 t mt).2.2.1⟩, S.nd⟩
  rcases List.mem_append.mp me with h | h
  · exact S.go e h
  · rw [List.mem_singleton.mp h]
    exact hg
end
end Tc
/-! a reading of the house changed where it stands; lives and numbers looked up -/
namespace Tc
open PySem L2 Evl
section
variable {K : PySem.W.Frag} {C R : Addr} {H H' : Hp} {p dW dK dL dR : Addr} {kvs : List (Key × V)} {kept : List V} {l : List (Rdg × Addr × Addr)} {m : HM} {X : Addr → Prop}
theorem HsB.one (S : HsB K C R H p dW dK dL dR kvs kept l m) {t : Rdg × Addr × Addr} (ht : t ∈ l) : t.2.1 ≠ t.2.2 := by
  have nd := S.nd
  unfold fpL at nd
  replace nd := (List.nodup_cons.mp (List.nodup_cons.mp (List.nodup_cons.mp (List.nodup_cons.mp (List.nodup_cons.mp nd).2).2).2).2).2
  have h := (List.pairwise_flatMap.mp nd).1 t ht
  exact (List.pairwise_cons.mp h).1 _ List.mem_cons_self
end
end Tc
/-! a comprehension that makes data of data -/
namespace Tc
open PySem L2 Evl
end Tc
/-! a comprehension that makes data, by any walk -/
namespace Tc
open PySem L2 Evl
end Tc
/-! a heap in parts that lie apart; a comprehension over range that makes anything -/
namespace Tc
open PySem L2 Evl
/-- a part of the heap: its places, and what holds of it -/
structure Part where
  X : Addr → Prop
  A : Hp → Prop
  keep : ∀ H H', A H → (∀ a u, X a → H a = some u → H' a = some u) → Kt H H' → A H'
  noT : ∀ H, A H → ∀ a, X a → NoT H a
def Part.non : Part := ⟨fun _ => False, fun _ => True, fun _ _ _ _ _ => trivial, fun _ _ _ h => h.elim⟩
/-- all parts hold, each apart from the others, none of what was there -/
structure Wd {ι : Type} (fx : ι → Prop) (H0 : Hp) (p : ι → Part) (H : Hp) : Prop where
  x0 : Ex H0 H
  a : ∀ j, (p j).A H
  d : ∀ i j, i ≠ j → ∀ x, (p i).X x → ¬ (p j).X x
  n : ∀ j x, (p j).X x → H0 x = none ∨ fx j
section
variable {ι : Type} [DecidableEq ι] {H0 H H' : Hp} {p : ι → Part} {fx : ι → Prop}
theorem Wd.ex (W : Wd fx H0 p H) (x : Ex H H') : Wd fx H0 p H' := ⟨W.x0.trans x, fun j => (p j).keep H H' (W.a j) (fun a u _ h => x a u h) (Kt.ex x), W.d, W.n⟩
theorem Wd.to {q : ι → Part} (W : Wd fx H0 p H) (e : ∀ j, q j = p j) : Wd fx H0 q H := by
  have : q = p := funext e
  rw [this]
  exact W
end
/-- a list alone: its place, what holds of its values where tuples stay -/
def Part.lst (a : Addr) (vs : List V) (A : Hp → Prop) (hA : ∀ H H', A H → Kt H H' → A H') : Part :=
  ⟨fun x => x = a, fun H => H a = some (.lst vs) ∧ A H, fun H H' h e kt => ⟨e a _ rfl h.1, hA H H' h.2 kt⟩, fun H h x e => by
    subst e
    exact ⟨_, h.1, (fun xs z => by cases z), fun o xs z => by cases z⟩⟩
theorem lc_mk {σ : L2.St} {H : Hp} {wi : TI} {n j : Nat} {vs : List Nat} {te : TE} {Q : VK} (Pv : Nat → List V → Addr → Hp → Prop) (few : n ≤ 1000)
    (hw : ∀ R : It → Hp → Prop, R (Itr 0 n) H → wi σ H R)
    (h0 : ∀ D, H D = none → Pv 0 [] D (upd H D (.lst [])))
    (hs : ∀ (i : Nat) acc D H1, i < n → acc.length = i → H1 D = some (.lst acc) → Pv i acc D H1 → wipe ((wipe σ vs).set j (some (.int (i : Int)))) vs = wipe σ vs ∧ ∀ R : VK, (∀ y H2, H2 D = some (.lst acc) → Pv (i + 1) (acc ++ [y]) D (upd H2 D (.lst (acc ++ [y]))) → R y H2) → te ((wipe σ vs).set j (some (.int (i : Int)))) H1 R)
    (hd : ∀ acc D H', acc.length = n → H' D = some (.lst acc) → Pv n acc D H' → Q (.ref D) H') : tLc wi (gName j) tYes te vs σ H Q := hw _ fun D hD => by
  refine lc_it walk_range (fun i H' => ∃ acc, acc.length = i ∧ H' D = some (.lst acc) ∧ Pv i acc D H') ⟨[], rfl, upd_same, h0 D hD⟩ (fun i H' _ q => trivial) (fun i x H' G' hi q y => ?_) (fun H' q => ?_)
  · obtain ⟨acc, la, hacc, hp⟩ := q
    obtain ⟨rfl, rfl⟩ := y
    obtain ⟨w1, w2⟩ := hs i acc D G' hi la hacc hp
    have e : (0 : Int) + (i : Int) = (i : Int) := by omega
    show gName j (.int (0 + (i : Int))) _ _ _
    rw [e]
    refine ⟨w1, ?_⟩
    unfold tYes
    dsimp only
    rw [if_pos rfl]
    have hlt : acc.length < sizeLine := sz_lt (by omega)
    exact w2 _ fun y H2 h1 h2 => ⟨acc, h1, hlt, acc ++ [y], by rw [List.length_append, la]; rfl, upd_same, h2⟩
  · obtain ⟨acc, la, hacc, hp⟩ := q
    exact hd acc D H' la hacc hp
end Tc
/-! xs += ys of lists; range by twos -/
namespace Tc
open PySem PySem.Spec PyProof.Rows L2
end Tc
namespace K49
open PySem L2 L2H PyProof.Rows Tc Evl
def topS (i : Nat) : Stmt := PySem.Challenge.pw_tidecopy_k49_refusals_apart.main.body.getD i (.Pass ⟨0, 0, 0, 0⟩)
/-- what the module's names hold -/
structure Names (mg : Str → Option Value) : Prop where
  isinstance : mg "isinstance" = none
  int : mg "int" = none
  str : mg "str" = none
  len : mg "len" = none
  range : mg "range" = none
  min : mg "min" = none
  abs : mg "abs" = none
  ve : mg "ValueError" = none
theorem rv_fdivW {H : Hp} {i j : Int} (h : 0 < j) (h2 : j.natAbs.log2 < 9000) : RV (rI CDivW fun i j => .int (i / j)) (.int i) (.int j) H (.int (i / j)) := fun H1 _ _ q => ⟨i, j, rfl, rfl, ⟨h, h2⟩, q H1 (Ex.refl H1)⟩
/-- a draw below any number -/
def spTakeW : Sp := fun vs H Q _ => ∃ (b : Addr) (m : Int), vs = [.ref b, .int m] ∧ Bag H b ∧ 0 < m ∧ m.natAbs.log2 < 9000 ∧ ∀ r H', Tc.Fr b H H' → 0 ≤ r → r < m → Q (.int r) H'
theorem takeW_of {b : Addr} {H : Hp} {σ : L2.St} {E : XK} {Q : VK} {ta : TA} {m : Int} (hB : Bag H b) (ha : EvA ta σ H [.ref b, .int m]) (h0 : 0 < m) (h1 : m.natAbs.log2 < 9000) (q : ∀ r H', Tc.Fr b H H' → 0 ≤ r → r < m → Q (.int r) H') : tCall spTakeW [] E ta σ H Q :=
  ha H (Ex.refl H) _ fun H1 e => ⟨b, m, rfl, (Fr.ex hB e).bag, h0, h1, fun r H' fr => q r H' ((Fr.ex hB e).trans fr)⟩
section
variable {P : Program} {w : World} {K : PySem.W.Frag} {mg : Str → Option Value} {base : Heap}
abbrev sTake : Stmt := topS 29
theorem scTake : FnScope ["bag", "man1", "found"] ["bag", "man1"] (defScope sTake) := ⟨rfl, rfl, rfl, by decide +kernel, rfl, by decide +kernel, by decide +kernel⟩
theorem ok_take {f : Addr} {fd : FuncData} {k : Nat} (F : Fun K "_law_take" "_law_take" sTake f fd) : FnOk P w K mg base CX0 (k + 1) f fd ["bag", "man1"] spTakeW := by
  refine F.ok scTake (fun vs H Q E h => ?_) (fun cdv A outer s H vs Q E hr h => ?_)
  · obtain ⟨b, m, rfl, _⟩ := h
    rfl
  · obtain ⟨b, m, rfl, ⟨x, y, hb, hx, hy, hz⟩, hm, hm2, q⟩ := h
    refine ⟨_, pss_cons (ps_if (pt_cmpR op_gt (pe_ix ix_list (pv 0) pe_int (fun _ _ => rfl)) pe_int (nomark _))
        (pss_cons (ps_set (i := 2) scTake.nd rfl (.inl rfl) (pe_op op_mod (pe_ix ix_list (pv 0) pe_int (fun _ _ => rfl)) (pv 1)))
        (pss_cons (ps_asg (pe_op op_fdivW (pe_ix ix_list (pv 0) pe_int (fun _ _ => rfl)) (pv 1)) (pg_sub (pv 0) pe_int set_list))
        (pss_one (ps_ret (pv 2))))) pss_nil)
      (pss_cons (ps_asg (pe_op op_mod (pe_op op_mul (pe_ix ix_list (pv 0) pe_int (fun _ _ => rfl)) pe_int) pe_int) (pg_sub (pv 0) pe_int set_list))
      (pss_one (ps_ret (pe_op op_mod (pe_op op_fdivW (pe_op op_mod (pe_op op_mul (pe_ix ix_list (pv 0) pe_int (fun _ _ => rfl)) (pe_ix ix_list (pv 0) pe_int (fun _ _ => rfl))) pe_int) pe_int) (pv 1))))), ?_⟩
    have hS : SqL K H b [.int x, .int y] := sq_of hb
    refine s_if (et_test (ev_op (ev_l0 (ev_var rfl) hS) ev_c rv_I0)) (fun e H1 x1 => ?_) (fun e H1 x1 => ?_)
    · refine s_seq (s_asg (ev_op (ev_l0 (ev_var rfl) (ex_l x1 hS)) (ev_var rfl) (rv_mod hm)) fun H2 x2 => s_seq ?_)
      refine s_setL (l := b) (j := 0) (x2 b _ (x1 b _ hb)) (ev_op (ev_l0 (ev_var rfl) (ex_l (x1.trans x2) hS)) (ev_var rfl) (rv_fdivW hm hm2)) (ev_var rfl) ev_c (by simp) fun H3 x3 => ?_
      refine s_ret (ev_var rfl) fun H4 x4 => q _ _ ((Fr.put ((x1.trans x2).trans x3) (Int.ediv_nonneg hx (by omega)) hy hz).trans (Fr.ex ?_ x4)) (Int.emod_nonneg _ (by omega)) (Int.emod_lt_of_pos _ hm)
      exact ⟨x / m, y, upd_same, Int.ediv_nonneg hx (by omega), hy, hz⟩
    · have hS1 := ex_l x1 hS
      refine s_next (s_seq (s_setL (l := b) (j := 1) (x1 b _ hb) (ev_op (ev_op (ev_l1 (ev_var rfl) hS1) ev_c (rv_mul (.inl ⟨by omega, by omega⟩))) ev_c (rv_mod (by decide))) (ev_var rfl) ev_c (by simp) fun H2 x2 => ?_))
      have y1 := Int.emod_nonneg (y * 48271) (b := 2147483647) (by decide)
      have y2 := Int.emod_lt_of_pos (y * 48271) (b := 2147483647) (by decide)
      generalize hyy : y * 48271 % 2147483647 = yy at y1 y2
      have hb2 : (upd H2 b (.lst [.int x, .int yy])) b = some (.lst [.int x, .int yy]) := upd_same
      have hB : Bag (upd H2 b (.lst [.int x, .int yy])) b := ⟨x, yy, upd_same, hx, y1, by omega⟩
      have hS2 : SqL K (upd H2 b (.lst [.int x, .int yy])) b [.int x, .int yy] := sq_of upd_same
      refine s_ret (ev_op (ev_op (ev_op (ev_op (ev_l1 (ev_var rfl) hS2) (ev_l1 (ev_var rfl) hS2) (rv_mul (.inl ⟨by omega, by omega⟩))) ev_c (rv_mod (by decide))) ev_c (rv_fdivW (by decide) (by decide))) (ev_var rfl) (rv_mod hm)) fun H4 x4 => ?_
      exact q _ _ ((Fr.put (x1.trans x2) hx y1 (by omega)).trans (Fr.ex hB x4)) (Int.emod_nonneg _ (by omega)) (Int.emod_lt_of_pos _ hm)
abbrev sBag : Stmt := topS 28
theorem scBag : FnScope ["script", "k", "cell"] ["script", "k"] (defScope sBag) := ⟨rfl, rfl, rfl, by decide +kernel, rfl, by decide +kernel, by decide +kernel⟩
theorem ok_bag {f : Addr} {fd : FuncData} {k : Nat} (F : Fun K "_law_bag" "_law_bag" sBag f fd) (N : Names mg) : FnOk P w K mg base CX0 (k + 1) f fd ["script", "k"] (spBag K) := by
  refine F.ok scBag (fun vs H Q E h => ?_) (fun cdv A outer s H vs Q E hr h => ?_)
  · obtain ⟨a, ns, k, rfl, _⟩ := h
    rfl
  · obtain ⟨a, ns, n, rfl, hS, hn, q⟩ := h
    refine ⟨_, pss_cons (ps_set (i := 2) scBag.nd rfl (.inl rfl) pe_int)
      (Evl.pss_cut (ps_if (pt_cmpR op_lt (pv 1) (pe_callB call_len_seq (by rfl) N.len PySem.boot_len (pa_cons (pv 0) pa_nil)) (nomark _)) (pss_one (ps_set (i := 2) scBag.nd rfl (.inl rfl) (pe_callB call_abs (by rfl) N.abs boot_abs (pa_cons (pe_ix ix_list (pv 0) (pv 1) (fun _ _ => rfl)) pa_nil)))) pss_nil)
      (pss_cons (ps_if (pt_cmpR op_lt (pv 2) (pe_op op_pow pe_int pe_int) (nomark _)) (pss_one (ps_ret (pe_lst (pa_cons pe_int (pa_cons (pe_op op_add pe_int (pe_op op_mod (pe_op op_add (pe_op op_mul (pv 2) pe_int) (pe_op op_mul pe_int (pv 1))) pe_int)) pa_nil))))) pss_nil)
      (pss_one (ps_ret (pe_lst (pa_cons (pv 2) (pa_cons (pe_op op_add pe_int (pe_op op_mod (pe_op op_add (pv 2) (pv 1)) pe_int)) pa_nil))))))), ?_⟩
    refine s_seq (s_asg ev_c fun H1 x1 => ⟨fun σ' H' => ∃ c : Int, σ' = [some (.ref a), some (.int (n : Int)), some (.int c)] ∧ Ex H H' ∧ 0 ≤ c, ?_, fun σ' H' m => ?_⟩)
    · refine s_if (et_test (ev_op (ev_var rfl) (ev_len (ev_var rfl) (ex_l x1 hS)) rv_I0)) (fun e H2 x2 => ?_) (fun e H2 x2 => ⟨0, rfl, x1.trans x2, by decide⟩)
      have e1 := of_decide_eq_true e
      rw [List.length_map] at e1
      have hlt : n < ns.length := by omega
      have hx : (ns.map V.int)[n]? = some (.int ns[n]) := by
        rw [List.getElem?_map, List.getElem?_eq_getElem hlt]
        rfl
      refine s_asg (ev_abs (ev_lx (ev_var rfl) (ev_var rfl) (ex_l (x1.trans x2) hS) hx)) fun H3 x3 => ⟨_, rfl, (x1.trans x2).trans x3, ?_⟩
      split <;> omega
    · obtain ⟨c, rfl, xx, hc⟩ := m
      refine s_seq (s_if (et_test (ev_op (ev_var rfl) (ev_op ev_c ev_c (rv_pow ⟨by decide, by decide, by decide⟩)) rv_I0)) (fun e H2 x2 => ?_) (fun e H2 x2 => s_next ?_))
      · refine s_retL (el_lst (ea_cons ev_c (ea_cons (ev_op ev_c (ev_op (ev_op (ev_op (ev_var rfl) ev_c (rv_mul (.inr ⟨by decide, by decide⟩))) (ev_op ev_c (ev_var rfl) (rv_mul (.inl ⟨by decide, by decide⟩))) rv_add) ev_c (rv_mod (by decide))) rv_add) ea_nil)) (by simp)) fun p H3 hp x3 hb => ?_
        have y1 := Int.emod_nonneg (c * 7919 + 104729 * (n : Int)) (b := 2147483646) (by decide)
        have y2 := Int.emod_lt_of_pos (c * 7919 + 104729 * (n : Int)) (b := 2147483646) (by decide)
        exact q p H3 (fresh_back (xx.trans x2) hp) ((xx.trans x2).trans x3) ⟨_, _, hb, by decide, by omega, by omega⟩
      · refine s_retL (el_lst (ea_cons (ev_var rfl) (ea_cons (ev_op ev_c (ev_op (ev_op (ev_var rfl) (ev_var rfl) rv_add) ev_c (rv_mod (by decide))) rv_add) ea_nil)) (by simp)) fun p H3 hp x3 hb => ?_
        have y1 := Int.emod_nonneg (c + (n : Int)) (b := 2147483646) (by decide)
        have y2 := Int.emod_lt_of_pos (c + (n : Int)) (b := 2147483646) (by decide)
        exact q p H3 (fresh_back (xx.trans x2) hp) ((xx.trans x2).trans x3) ⟨_, _, hb, hc, by omega, by omega⟩
abbrev sName : Stmt := topS 30
theorem scName : FnScope ["bag", "man1", "k"] ["bag"] (defScope sName) := ⟨rfl, rfl, rfl, by decide +kernel, rfl, by decide +kernel, by decide +kernel⟩
/-- a name of one to eight letters -/
def spName : Sp := fun vs H Q _ => ∃ b : Addr, vs = [.ref b] ∧ Bag H b ∧ ∀ s H', Tc.Fr b H H' → s.length ≤ 8 → Q (.str s) H'
theorem g_name {i : Nat} {v : V} {σ : L2.St} {H : Hp} {Q : L2.St → Hp → Prop} (h : Q (σ.set i (some v)) H) : gName i v σ H Q := h
theorem t_asg {te : TE} {g : TG} {D : Ends} {σ : L2.St} {H : Hp} (h : te σ H fun x H1 => g x σ H1 D.nx) : tAsg te g D σ H := h
theorem opc_of {r : R2} {x : V} {tb : TE} {σ : L2.St} {H : Hp} {Q : VK} (h : tb σ H fun y H1 => r x y H1 Q) : tOp r (tC x) tb σ H Q := h
theorem op_ofv {r : R2} {ta tb : TE} {σ : L2.St} {H : Hp} {Q : VK} (h : ta σ H fun x H1 => tb σ H1 fun y H2 => r x y H2 Q) : tOp r ta tb σ H Q := h
theorem lst_ofa {t : TA} {σ : L2.St} {H : Hp} {Q : VK} (h : t σ H fun xs H1 => xs.length ≤ sizeLine ∧ ∀ p, H1 p = none → Q (.ref p) (upd H1 p (.lst xs))) : tLst t σ H Q := h
theorem cons_ofa {te : TE} {t : TA} {σ : L2.St} {H : Hp} {Q : List V → Hp → Prop} (h : te σ H fun x H1 => t σ H1 fun xs H2 => Q (x :: xs) H2) : tCons te t σ H Q := h
theorem cb_ofa {r : List V → Hp → VK → Prop} {t : TA} {σ : L2.St} {H : Hp} {Q : VK} (h : t σ H fun xs H1 => r xs H1 Q) : tCB r t σ H Q := h
theorem ok_name {f : Addr} {fd : FuncData} {kT k : Nat} (F : Fun K "_law_name" "_law_name" sName f fd) (N : Names mg) (dT : Own P w K mg base "_law_take" ["bag", "man1"] kT spTakeW) (hT : kT ≤ k) : FnOk P w K mg base CX0 (k + 1) f fd ["bag"] spName := by
  refine F.ok scName (fun vs H Q E h => ?_) (fun cdv A outer s H vs Q E hr h => ?_)
  · obtain ⟨b, rfl, _⟩ := h
    rfl
  · obtain ⟨b, rfl, hB, q⟩ := h
    refine ⟨_, (pss_cons (ps_set (i := 1) scName.nd rfl (by first | exact .inl rfl | exact .inr rfl) (pe_op op_add pe_int (pe_ix ix_list (pe_lst (pa_cons (pe_own dT hr hT (by rfl) (pa_cons (pv 0) (pa_cons pe_int pa_nil))) (pa_cons (pe_own dT hr hT (by rfl) (pa_cons (pv 0) (pa_cons pe_int pa_nil))) pa_nil))) (pe_callTy call_int1 (by rfl) N.int boot_int (pa_cons (pe_cmpR op_eq (pe_own dT hr hT (by rfl) (pa_cons (pv 0) (pa_cons pe_int pa_nil))) pe_int (nomark _)) pa_nil)) (fun _ _ => rfl))))
      (pss_one (ps_ret (pe_join pe_str (pe_lc (own := [("k", 2)]) (g := gName 2) (tt := tYes) (te := tOp rIxS (tC (.str "abcdefghijklmnopqrstuvwxyz")) (tCall spTakeW [] E0 (tCons (tVar 0) (tCons (tC (.int 26)) tNil)))) rfl scName.nd (pi_range1 rfl N.range (pa_cons (pv 1) pa_nil)) (blkOk_by (N := ["bag", "man1", "k"]) (sc := defScope sName) (by decide +kernel)) (fun _ _ _ _ _ => pg_name (i := 2) scName.nd rfl (Or.inl rfl)) (fun _ _ _ _ _ => pts_nil) (fun _ _ _ _ _ => (pe_ix ix_str pe_str (pe_own dT hr hT (by rfl) (pa_cons (pv 0) (pa_cons pe_int pa_nil))) (fun _ _ => rfl)))))))), ?_⟩
    refine s_seq (t_asg (opc_of (op_ofv (lst_ofa (cons_ofa (takeW_of (b := b) (m := 3) hB (ea_cons (ev_var rfl) (ea_cons ev_c ea_nil)) (by decide) (by decide) fun r1 H1 f1 a0 a1 => ?_))))))
    refine cons_ofa (takeW_of (b := b) (m := 8) f1.bag (ea_cons (ev_var rfl) (ea_cons ev_c ea_nil)) (by decide) (by decide) fun r2 H2 f2 b0 b1 => ?_)
    refine ⟨sz_of (by simp), fun L nL => ?_⟩
    have f3 := f2.trans (Fr.new f2.bag nL (o := .lst [.int r1, .int r2]))
    have nLb : L ≠ b := f2.bag.ne nL
    refine cb_ofa (cons_ofa (op_ofv (takeW_of (b := b) (m := 4) f3.bag (ea_cons (ev_var rfl) (ea_cons ev_c ea_nil)) (by decide) (by decide) fun r3 H3 f4 c0 c1 => ⟨rfl, ?_⟩)))
    have hL : H3 L = some (.lst [.int r1, .int r2]) := f4.at upd_same nLb
    have f := (f1.trans f3).trans f4
    obtain ⟨n, hn, n0, n8⟩ : ∃ n : Nat, atI [V.int r1, .int r2] (if decide (V.int r3 = V.int 0) = true then 1 else 0) = some (.int (n : Int)) ∧ 1 + (n : Int) ≤ 8 ∧ 0 ≤ n := by
      split
      · exact ⟨r2.toNat, by rw [show (r2.toNat : Int) = r2 by omega]; rfl, by omega, Nat.zero_le _⟩
      · exact ⟨r1.toNat, by rw [show (r1.toNat : Int) = r1 by omega]; rfl, by omega, Nat.zero_le _⟩
    refine .inr ⟨_, rfl, L, _, _, _, rfl, rfl, sq_of hL, hn, 1, (n : Int), rfl, rfl, g_name ?_⟩
    clear hn hL nLb f1 f2 f3 f4 nL
    try dsimp only
    -- the letters
    refine ⟨⟨"", rfl⟩, ?_⟩
    refine lc_mk (n := 1 + n) (Pv := fun i acc D H' => ∃ ys : List Str, acc = ys.map V.str ∧ ys.length = i ∧ (∀ y ∈ ys, y.length = 1) ∧ Tc.Fr b H H' ∧ D ≠ b ∧ H D = none) (by omega) (fun R r' => ⟨.int (1 + (n : Int)), rfl, 1 + (n : Int), rfl, by omega, by omega, by rw [show (1 + (n : Int)).toNat = 1 + n by omega]; exact r'⟩) (fun D hD => ⟨[], rfl, rfl, fun y my => (by cases my), f.trans (Fr.new f.bag hD), f.bag.ne hD, f.free hB hD⟩) (fun i acc D G hi la hacc p => ⟨rfl, fun R r' => ?_⟩) (fun acc D G la hacc p => ?_)
    · obtain ⟨ys, rfl, ly, ys1, fG, nD, hD0⟩ := p
      refine op_ofv (takeW_of (b := b) (m := 26) fG.bag (ea_cons (ev_var rfl) (ea_cons ev_c ea_nil)) (by decide) (by decide) fun r4 H4 f5 d0 d1 => ?_)
      have l26 : ("abcdefghijklmnopqrstuvwxyz" : Str).cps.toList.length = 26 := by decide +kernel
      obtain ⟨c, hc⟩ : ∃ c, ("abcdefghijklmnopqrstuvwxyz" : Str).cps.toList[r4.toNat]? = some c := ⟨_, List.getElem?_eq_getElem (by omega)⟩
      refine ⟨_, r4, c, rfl, rfl, by decide +kernel, by rw [show r4 = ((r4.toNat : Nat) : Int) by omega]; exact atI_nat hc, ?_⟩
      have h4 := f5.at hacc nD
      refine r' _ _ h4 ⟨ys ++ [⟨#[c]⟩], by rw [List.map_append]; rfl, by rw [List.length_append, ly]; rfl, fun y my => ?_, (fG.trans f5).mut hD0 nD, nD, hD0⟩
      · rcases List.mem_append.mp my with m | m
        · exact ys1 y m
        · rw [List.mem_singleton.mp m]; rfl
    · obtain ⟨ys, rfl, ly, ys1, fG, nD, hD0⟩ := p
      have sum : (ys.map (·.length)).sum = ys.length := by
        have : ys.map (·.length) = ys.map fun _ => 1 := List.map_congr_left ys1
        rw [this, List.map_const', List.sum_replicate_nat, Nat.mul_one]
      refine ⟨"", D, ys, rfl, rfl, .inl (sq_of hacc), ?_, q _ G fG ?_⟩
      · rw [sum, show ("" : Str).length = 0 from rfl]
        omega
      · have h := StrLaws.join_length_le "" ys
        rw [show Txt.join "" ys = Str.join "" ys from StrLaws.glued_eq_join _ _]
        rw [sum, show ("" : Str).length = 0 from rfl] at h
        omega
end
end K49
namespace K49
open PySem L2 L2H PyProof.Rows Tc Evl
abbrev sKinds : Stmt := topS 31
theorem scKinds : FnScope ["e", "some", "words", "k"] ["e"] (defScope sKinds) := ⟨rfl, rfl, rfl, by decide +kernel, rfl, by decide +kernel, by decide +kernel⟩
/-- the kinds of an exception held -/
def spKinO (K : PySem.W.Frag) (mg : Str → Option Value) : Sp := fun vs H Q _ => ∃ (a D : Addr) (fs : List (Str × V)) (fl : List Bool), vs = [.ref a] ∧ Kd K mg D fl ∧ ExA H a D fs ∧ ∀ H', Ex H H' → Q (.str (Txt.join "" (kindsL fl))) H'
abbrev sField : Stmt := topS 32
theorem scField : FnScope ["e"] ["e"] (defScope sField) := ⟨rfl, rfl, rfl, by decide +kernel, rfl, by decide +kernel, by decide +kernel⟩
/-- which field is told -/
def fieldOf (fl : List Bool) : Option Str := if ((fl.getD 8 false || (fl.getD 22 false || false))) = true then some "at" else if ((fl.getD 6 false || (fl.getD 3 false || false))) = true then some "who" else if ((fl.getD 9 false || (fl.getD 24 false || (fl.getD 16 false || (fl.getD 19 false || false))))) = true then some "number" else if ((fl.getD 5 false || (fl.getD 20 false || false))) = true then some "key" else if fl.getD 14 false = true then some "name" else if fl.getD 21 false = true then some "many" else none
/-- its field -/
def spFdO (K : PySem.W.Frag) (mg : Str → Option Value) : Sp := fun vs H Q _ => ∃ (a D : Addr) (fl : List Bool) (n : Str) (fs : List (Str × V)) (v : V), vs = [.ref a] ∧ Kd K mg D fl ∧ XfC K D ∧ ExA H a D fs ∧ fieldOf fl = some n ∧ PySem.W.findIn K (.ref D) n = some none ∧ fs.lookup n = some v ∧ ∀ H', Ex H H' → Q v H'
abbrev sMr : Stmt := topS 33
theorem scMr : FnScope ["e", "due"] ["e", "due"] (defScope sMr) := ⟨rfl, rfl, rfl, by decide +kernel, rfl, by decide +kernel, by decide +kernel⟩
/-- made right -/
def spMr (K : PySem.W.Frag) (mg : Str → Option Value) : Sp := fun vs H Q _ => ∃ (a D : Addr) (fs : List (Str × V)) (fl : List Bool) (due : Str), vs = [.ref a, .str due] ∧ Kd K mg D fl ∧ (∃ c, mg "TideError" = some (.ref c) ∧ PySem.W.kitOne K (.ref D) (.ref c) = some true) ∧ ExA H a D fs ∧ due.length ≤ 100 ∧ Txt.join "" (kindsL fl) = due ++ "+" ∧ ∀ H', Ex H H' → Q (.bl true) H'
section
variable {P : Program} {w : World} {K : PySem.W.Frag} {mg : Str → Option Value} {base : Heap}
set_option maxHeartbeats 2000000 in
theorem ok_kinds {f : Addr} {fd : FuncData} {k : Nat} (F : Fun K "_law_kinds" "_law_kinds" sKinds f fd) (N : Names mg) : FnOk P w K mg base CX0 (k + 1) f fd ["e"] (spKinO K mg) := by
  refine F.ok scKinds (fun vs H Q E h => ?_) (fun cdv A outer s H vs Q E hr h => ?_)
  · obtain ⟨a, D, fs, fl, rfl, _⟩ := h
    rfl
  · obtain ⟨a, D, fs, fl, rfl, C, hx, q⟩ := h
    refine ⟨_, (pss_cons (ps_set (i := 1) scKinds.nd rfl (.inr rfl) (pe_lst (pa_cons (pe_io C.ck (by rfl) N.isinstance (by rfl) (C.one 0 _ rfl) (pv 0)) (pa_cons (pe_io C.ck (by rfl) N.isinstance (by rfl) (C.one 1 _ rfl) (pv 0)) (pa_cons (pe_io C.ck (by rfl) N.isinstance (by rfl) (C.one 2 _ rfl) (pv 0)) (pa_cons (pe_io C.ck (by rfl) N.isinstance (by rfl) (C.one 3 _ rfl) (pv 0)) pa_nil))))))
      (pss_cons (ps_set (i := 1) scKinds.nd rfl (.inr rfl) (pe_op op_cat (pv 1) (pe_lst (pa_cons (pe_io C.ck (by rfl) N.isinstance (by rfl) (C.one 4 _ rfl) (pv 0)) (pa_cons (pe_io C.ck (by rfl) N.isinstance (by rfl) (C.one 5 _ rfl) (pv 0)) (pa_cons (pe_io C.ck (by rfl) N.isinstance (by rfl) (C.one 6 _ rfl) (pv 0)) (pa_cons (pe_io C.ck (by rfl) N.isinstance (by rfl) (C.one 7 _ rfl) (pv 0)) pa_nil)))))))
      (pss_cons (ps_set (i := 1) scKinds.nd rfl (.inr rfl) (pe_op op_cat (pv 1) (pe_lst (pa_cons (pe_io C.ck (by rfl) N.isinstance (by rfl) (C.one 8 _ rfl) (pv 0)) (pa_cons (pe_io C.ck (by rfl) N.isinstance (by rfl) (C.one 9 _ rfl) (pv 0)) (pa_cons (pe_io C.ck (by rfl) N.isinstance (by rfl) (C.one 10 _ rfl) (pv 0)) (pa_cons (pe_io C.ck (by rfl) N.isinstance (by rfl) (C.one 11 _ rfl) (pv 0)) pa_nil)))))))
      (pss_cons (ps_set (i := 1) scKinds.nd rfl (.inr rfl) (pe_op op_cat (pv 1) (pe_lst (pa_cons (pe_io C.ck (by rfl) N.isinstance (by rfl) (C.one 12 _ rfl) (pv 0)) (pa_cons (pe_io C.ck (by rfl) N.isinstance (by rfl) (C.one 13 _ rfl) (pv 0)) (pa_cons (pe_io C.ck (by rfl) N.isinstance (by rfl) (C.one 14 _ rfl) (pv 0)) (pa_cons (pe_io C.ck (by rfl) N.isinstance (by rfl) (C.one 15 _ rfl) (pv 0)) pa_nil)))))))
      (pss_cons (ps_set (i := 1) scKinds.nd rfl (.inr rfl) (pe_op op_cat (pv 1) (pe_lst (pa_cons (pe_io C.ck (by rfl) N.isinstance (by rfl) (C.one 16 _ rfl) (pv 0)) (pa_cons (pe_io C.ck (by rfl) N.isinstance (by rfl) (C.one 17 _ rfl) (pv 0)) (pa_cons (pe_io C.ck (by rfl) N.isinstance (by rfl) (C.one 18 _ rfl) (pv 0)) pa_nil))))))
      (pss_cons (ps_set (i := 1) scKinds.nd rfl (.inr rfl) (pe_op op_cat (pv 1) (pe_lst (pa_cons (pe_io C.ck (by rfl) N.isinstance (by rfl) (C.one 19 _ rfl) (pv 0)) (pa_cons (pe_io C.ck (by rfl) N.isinstance (by rfl) (C.one 20 _ rfl) (pv 0)) (pa_cons (pe_io C.ck (by rfl) N.isinstance (by rfl) (C.one 21 _ rfl) (pv 0)) (pa_cons (pe_io C.ck (by rfl) N.isinstance (by rfl) (C.one 22 _ rfl) (pv 0)) pa_nil)))))))
      (pss_cons (ps_set (i := 1) scKinds.nd rfl (.inr rfl) (pe_op op_cat (pv 1) (pe_lst (pa_cons (pe_io C.ck (by rfl) N.isinstance (by rfl) (C.one 23 _ rfl) (pv 0)) (pa_cons (pe_io C.ck (by rfl) N.isinstance (by rfl) (C.one 24 _ rfl) (pv 0)) (pa_cons (pe_ioV C.ck (by rfl) N.isinstance (by rfl) N.ve (pv 0)) pa_nil))))))
      (pss_cons (ps_set (i := 2) scKinds.nd rfl (.inr rfl) (pe_lst (pa_cons pe_str (pa_cons pe_str (pa_cons pe_str (pa_cons pe_str (pa_cons pe_str (pa_cons pe_str (pa_cons pe_str (pa_cons pe_str (pa_cons pe_str (pa_cons pe_str pa_nil))))))))))))
      (pss_cons (ps_set (i := 2) scKinds.nd rfl (.inr rfl) (pe_op op_cat (pv 2) (pe_lst (pa_cons pe_str (pa_cons pe_str (pa_cons pe_str (pa_cons pe_str (pa_cons pe_str (pa_cons pe_str (pa_cons pe_str (pa_cons pe_str pa_nil)))))))))))
      (pss_cons (ps_set (i := 2) scKinds.nd rfl (.inr rfl) (pe_op op_cat (pv 2) (pe_lst (pa_cons pe_str (pa_cons pe_str (pa_cons pe_str (pa_cons pe_str (pa_cons pe_str (pa_cons pe_str (pa_cons pe_str (pa_cons pe_str pa_nil)))))))))))
      (pss_one (ps_ret (pe_join pe_str (pe_lc (own := [("k", 3)]) (g := gName 3) (tt := tB (tOp (rIxL K) (tVar 1) (tVar 3))) (te := tOp (rIxL K) (tVar 2) (tVar 3)) rfl scKinds.nd (pi_range1 rfl N.range (pa_cons pe_int pa_nil)) (blkOk_by (N := ["e", "some", "words", "k"]) (sc := defScope sKinds) (by decide +kernel)) (fun _ _ _ _ _ => pg_name (i := 3) scKinds.nd rfl (Or.inl rfl)) (fun _ _ _ _ _ => (pts_one (pt_val (pe_ix ix_list (pv 1) (pv 3) (fun _ _ => rfl))))) (fun _ _ _ _ _ => (pe_ix ix_list (pv 2) (pv 3) (fun _ _ => rfl))))))))))))))))), ?_⟩
    refine q_asgL (el_lst (ea_cons (ev_io _ (ev_var rfl) (hx.ex (Ex.refl H))) (ea_cons (ev_io _ (ev_var rfl) (hx.ex (Ex.refl H))) (ea_cons (ev_io _ (ev_var rfl) (hx.ex (Ex.refl H))) (ea_cons (ev_io _ (ev_var rfl) (hx.ex (Ex.refl H))) ea_nil)))) (by simp)) (fun p0 H0 _ x0 h0 => ?_)
    refine q_asgL (el_catV (ev_var rfl) h0 (el_lst (ea_cons (ev_io _ (ev_var rfl) (hx.ex x0)) (ea_cons (ev_io _ (ev_var rfl) (hx.ex x0)) (ea_cons (ev_io _ (ev_var rfl) (hx.ex x0)) (ea_cons (ev_io _ (ev_var rfl) (hx.ex x0)) ea_nil)))) (by simp)) (by simp)) (fun p1 H1 _ y1 h1 => ?_)
    have x1 := x0.trans y1
    refine q_asgL (el_catV (ev_var rfl) h1 (el_lst (ea_cons (ev_io _ (ev_var rfl) (hx.ex x1)) (ea_cons (ev_io _ (ev_var rfl) (hx.ex x1)) (ea_cons (ev_io _ (ev_var rfl) (hx.ex x1)) (ea_cons (ev_io _ (ev_var rfl) (hx.ex x1)) ea_nil)))) (by simp)) (by simp)) (fun p2 H2 _ y2 h2 => ?_)
    have x2 := x1.trans y2
    refine q_asgL (el_catV (ev_var rfl) h2 (el_lst (ea_cons (ev_io _ (ev_var rfl) (hx.ex x2)) (ea_cons (ev_io _ (ev_var rfl) (hx.ex x2)) (ea_cons (ev_io _ (ev_var rfl) (hx.ex x2)) (ea_cons (ev_io _ (ev_var rfl) (hx.ex x2)) ea_nil)))) (by simp)) (by simp)) (fun p3 H3 _ y3 h3 => ?_)
    have x3 := x2.trans y3
    refine q_asgL (el_catV (ev_var rfl) h3 (el_lst (ea_cons (ev_io _ (ev_var rfl) (hx.ex x3)) (ea_cons (ev_io _ (ev_var rfl) (hx.ex x3)) (ea_cons (ev_io _ (ev_var rfl) (hx.ex x3)) ea_nil))) (by simp)) (by simp)) (fun p4 H4 _ y4 h4 => ?_)
    have x4 := x3.trans y4
    refine q_asgL (el_catV (ev_var rfl) h4 (el_lst (ea_cons (ev_io _ (ev_var rfl) (hx.ex x4)) (ea_cons (ev_io _ (ev_var rfl) (hx.ex x4)) (ea_cons (ev_io _ (ev_var rfl) (hx.ex x4)) (ea_cons (ev_io _ (ev_var rfl) (hx.ex x4)) ea_nil)))) (by simp)) (by simp)) (fun p5 H5 _ y5 h5 => ?_)
    have x5 := x4.trans y5
    refine q_asgL (el_catV (ev_var rfl) h5 (el_lst (ea_cons (ev_io _ (ev_var rfl) (hx.ex x5)) (ea_cons (ev_io _ (ev_var rfl) (hx.ex x5)) (ea_cons (ev_ioV C.ve (ev_var rfl) (hx.ex x5)) ea_nil))) (by simp)) (by simp)) (fun p6 H6 _ y6 h6 => ?_)
    have x6 := x5.trans y6
    refine q_asgL (el_lst (ea_cons ev_c (ea_cons ev_c (ea_cons ev_c (ea_cons ev_c (ea_cons ev_c (ea_cons ev_c (ea_cons ev_c (ea_cons ev_c (ea_cons ev_c (ea_cons ev_c ea_nil)))))))))) (by simp)) (fun p7 H7 _ y7 h7 => ?_)
    have x7 := x6.trans y7
    refine q_asgL (el_catV (ev_var rfl) h7 (el_lst (ea_cons ev_c (ea_cons ev_c (ea_cons ev_c (ea_cons ev_c (ea_cons ev_c (ea_cons ev_c (ea_cons ev_c (ea_cons ev_c ea_nil)))))))) (by simp)) (by simp)) (fun p8 H8 _ y8 h8 => ?_)
    have x8 := x7.trans y8
    refine q_asgL (el_catV (ev_var rfl) h8 (el_lst (ea_cons ev_c (ea_cons ev_c (ea_cons ev_c (ea_cons ev_c (ea_cons ev_c (ea_cons ev_c (ea_cons ev_c (ea_cons ev_c ea_nil)))))))) (by simp)) (by simp)) (fun p9 H9 _ y9 h9 => ?_)
    have x9 := x8.trans y9
    rw [flags_eq fun i => V.bl (fl.getD i false)] at h6
    exact kinds_end (v := .ref a) (((y7.trans y8).trans y9) p6 _ h6) h9 fun H' x' => q H' (x9.trans x')
set_option maxHeartbeats 2000000 in
theorem ok_field {f : Addr} {fd : FuncData} {k : Nat} (F : Fun K "_law_field" "_law_field" sField f fd) (N : Names mg) : FnOk P w K mg base CX0 (k + 1) f fd ["e"] (spFdO K mg) := by
  refine F.ok scField (fun vs H Q E h => ?_) (fun cdv A outer s H vs Q E hr h => ?_)
  · obtain ⟨a, D, fl, n, fs, v, rfl, _⟩ := h
    rfl
  · obtain ⟨a, D, fl, n, fs, v, rfl, C, T, hx, hfo, hn, hl, q⟩ := h
    have hno : ∀ m : Str, fieldOf fl = some m → PySem.W.findIn K (.ref D) m = some none := fun m e => by
      rw [hfo] at e
      exact Option.some.inj e ▸ hn
    refine ⟨_, (pss_cons (ps_if (pt_val (pe_ioT C.ck (by rfl) N.isinstance (fun _ _ _ => rfl) (pv 0) (.cons (by rfl) (by decide) (C.one 8 _ rfl) (.cons (by rfl) (by decide) (C.one 22 _ rfl) .nil)))) (pss_one (ps_ret (pe_c (c := fieldOf fl = some (Str.ofString "at")) fun h => pe_xo T (hno _ h) (pv 0)))) pss_nil)
      (pss_cons (ps_if (pt_val (pe_ioT C.ck (by rfl) N.isinstance (fun _ _ _ => rfl) (pv 0) (.cons (by rfl) (by decide) (C.one 6 _ rfl) (.cons (by rfl) (by decide) (C.one 3 _ rfl) .nil)))) (pss_one (ps_ret (pe_c (c := fieldOf fl = some (Str.ofString "who")) fun h => pe_xo T (hno _ h) (pv 0)))) pss_nil)
      (pss_cons (ps_if (pt_val (pe_ioT C.ck (by rfl) N.isinstance (fun _ _ _ => rfl) (pv 0) (.cons (by rfl) (by decide) (C.one 9 _ rfl) (.cons (by rfl) (by decide) (C.one 24 _ rfl) (.cons (by rfl) (by decide) (C.one 16 _ rfl) (.cons (by rfl) (by decide) (C.one 19 _ rfl) .nil)))))) (pss_one (ps_ret (pe_c (c := fieldOf fl = some (Str.ofString "number")) fun h => pe_xo T (hno _ h) (pv 0)))) pss_nil)
      (pss_cons (ps_if (pt_val (pe_ioT C.ck (by rfl) N.isinstance (fun _ _ _ => rfl) (pv 0) (.cons (by rfl) (by decide) (C.one 5 _ rfl) (.cons (by rfl) (by decide) (C.one 20 _ rfl) .nil)))) (pss_one (ps_ret (pe_c (c := fieldOf fl = some (Str.ofString "key")) fun h => pe_xo T (hno _ h) (pv 0)))) pss_nil)
      (pss_cons (ps_if (pt_val (pe_io C.ck (by rfl) N.isinstance (by rfl) (C.one 14 _ rfl) (pv 0))) (pss_one (ps_ret (pe_c (c := fieldOf fl = some (Str.ofString "name")) fun h => pe_xo T (hno _ h) (pv 0)))) pss_nil)
      (pss_one (ps_ret (pe_ifExp (pt_val (pe_io C.ck (by rfl) N.isinstance (by rfl) (C.one 21 _ rfl) (pv 0))) (pe_c (c := fieldOf fl = some (Str.ofString "many")) fun h => pe_xo T (hno _ h) (pv 0)) pe_non)))))))), ?_⟩
    have tell : ∀ (m : Str) (G : Hp) (D' : Ends), fieldOf fl = some m → Ex H G → (∀ v H', D'.rt v H' = Q v H') → tRet (tXc (fieldOf fl = some m) (tXo D m (tVar 0))) D' [some (.ref a)] G := fun m G D' e x hD => by
      obtain rfl : n = m := Option.some.inj (hfo.symm.trans e)
      refine ⟨e, .ref a, rfl, a, fs, v, rfl, hx.ex x, hl, ?_⟩
      rw [hD]
      exact q G x
    try dsimp only
    refine s_seq (s_if (b := (fl.getD 8 false || (fl.getD 22 false || false))) (et_B (ev_ioT (any_cons (C.one 8 _ rfl) (any_cons (C.one 22 _ rfl) any_nil)) (by simp) (ev_var rfl) (hx.ex (Ex.refl H)))) (fun c0 G0 y0 => tell "at" G0 _ (by unfold fieldOf; rw [if_pos c0]) (((Ex.refl H)).trans y0) fun _ _ => rfl) fun c0 G0 y0 => s_next ?_)
    have x0 := ((Ex.refl H)).trans y0
    try dsimp only
    refine s_seq (s_if (b := (fl.getD 6 false || (fl.getD 3 false || false))) (et_B (ev_ioT (any_cons (C.one 6 _ rfl) (any_cons (C.one 3 _ rfl) any_nil)) (by simp) (ev_var rfl) (hx.ex x0))) (fun c1 G1 y1 => tell "who" G1 _ (by unfold fieldOf; rw [if_neg (by rw [c0]; exact Bool.false_ne_true), if_pos c1]) ((x0).trans y1) fun _ _ => rfl) fun c1 G1 y1 => s_next ?_)
    have x1 := (x0).trans y1
    try dsimp only
    refine s_seq (s_if (b := (fl.getD 9 false || (fl.getD 24 false || (fl.getD 16 false || (fl.getD 19 false || false))))) (et_B (ev_ioT (any_cons (C.one 9 _ rfl) (any_cons (C.one 24 _ rfl) (any_cons (C.one 16 _ rfl) (any_cons (C.one 19 _ rfl) any_nil)))) (by simp) (ev_var rfl) (hx.ex x1))) (fun c2 G2 y2 => tell "number" G2 _ (by unfold fieldOf; rw [if_neg (by rw [c0]; exact Bool.false_ne_true), if_neg (by rw [c1]; exact Bool.false_ne_true), if_pos c2]) ((x1).trans y2) fun _ _ => rfl) fun c2 G2 y2 => s_next ?_)
    have x2 := (x1).trans y2
    try dsimp only
    refine s_seq (s_if (b := (fl.getD 5 false || (fl.getD 20 false || false))) (et_B (ev_ioT (any_cons (C.one 5 _ rfl) (any_cons (C.one 20 _ rfl) any_nil)) (by simp) (ev_var rfl) (hx.ex x2))) (fun c3 G3 y3 => tell "key" G3 _ (by unfold fieldOf; rw [if_neg (by rw [c0]; exact Bool.false_ne_true), if_neg (by rw [c1]; exact Bool.false_ne_true), if_neg (by rw [c2]; exact Bool.false_ne_true), if_pos c3]) ((x2).trans y3) fun _ _ => rfl) fun c3 G3 y3 => s_next ?_)
    have x3 := (x2).trans y3
    try dsimp only
    refine s_seq (s_if (b := fl.getD 14 false) (et_B (ev_io (C.one 14 _ rfl) (ev_var rfl) (hx.ex x3))) (fun c4 G4 y4 => tell "name" G4 _ (by unfold fieldOf; rw [if_neg (by rw [c0]; exact Bool.false_ne_true), if_neg (by rw [c1]; exact Bool.false_ne_true), if_neg (by rw [c2]; exact Bool.false_ne_true), if_neg (by rw [c3]; exact Bool.false_ne_true), if_pos c4]) ((x3).trans y4) fun _ _ => rfl) fun c4 G4 y4 => s_next ?_)
    have x4 := (x3).trans y4
    dsimp only
    unfold tRet tIf
    refine (et_B (ev_io (b := fl.getD 21 false) (C.one 21 _ rfl) (te := tVar 0) (σ := [some (.ref a)]) (H := G4) (ev_var rfl) (hx.ex x4))) G4 (Ex.refl G4) _ fun G9 y9 => ?_
    refine ite2 (fun c9 => ?_) (fun c9 => ?_)
    · exact (tell "many" G9 { nx := fun _ H' => Q .non H', rt := Q } (by unfold fieldOf; rw [if_neg (by rw [c0]; exact Bool.false_ne_true), if_neg (by rw [c1]; exact Bool.false_ne_true), if_neg (by rw [c2]; exact Bool.false_ne_true), if_neg (by rw [c3]; exact Bool.false_ne_true), if_neg (by rw [c4]; exact Bool.false_ne_true), if_pos c9]) ((x4).trans y9) fun _ _ => rfl)
    · exfalso
      unfold fieldOf at hfo
      rw [if_neg (by rw [c0]; exact Bool.false_ne_true), if_neg (by rw [c1]; exact Bool.false_ne_true), if_neg (by rw [c2]; exact Bool.false_ne_true), if_neg (by rw [c3]; exact Bool.false_ne_true), if_neg (by rw [c4]; exact Bool.false_ne_true), if_neg c9] at hfo
      cases hfo
theorem ok_mr {f : Addr} {fd : FuncData} {kK k : Nat} (F : Fun K "_law_made_right" "_law_made_right" sMr f fd) (N : Names mg) (dK : Own P w K mg base "_law_kinds" ["e"] kK (spKinO K mg)) (hK : kK ≤ k) : FnOk P w K mg base CX0 (k + 1) f fd ["e", "due"] (spMr K mg) := by
  refine F.ok scMr (fun vs H Q E h => ?_) (fun cdv A outer s H vs Q E hr h => ?_)
  · obtain ⟨a, D, fs, fl, due, rfl, _⟩ := h
    rfl
  · obtain ⟨a, D, fs, fl, due, rfl, C, kt, hx, ld, ed, q⟩ := h
    refine ⟨_, (pss_one (ps_ret (pe_and (pe_io C.ck (by rfl) N.isinstance (by rfl) kt (pv 0)) (pe_one (pe_cmpR op_eq (pe_own dK hr hK (by rfl) (pa_cons (pv 0) pa_nil)) (pe_op op_add_str (pv 1) pe_str) (nomark _)))))), ?_⟩
    have h1 := ev_io (K := K) (H := H) (σ := [some (.ref a), some (.str due)]) (te := tVar 0) kt (ev_var rfl) hx
    refine h1 H (Ex.refl H) _ fun H1 x1 => ⟨true, rfl, ?_⟩
    rw [if_pos rfl]
    refine ⟨.ref a, rfl, a, D, fs, fl, rfl, C, hx.ex x1, fun H2 x2 => ⟨.str due, rfl, due, "+", rfl, rfl, sz_of (by rw [show ("+" : Str).length = 1 by decide +kernel]; omega), rfl, ?_⟩⟩
    rw [decide_eq_true (by rw [ed])]
    exact q H2 (x1.trans x2)
end
end K49
namespace K49
open PySem L2 L2H PyProof.Rows Tc Evl
/-! ### exceptions made, kept in lists -/
structure Px where
  D : Addr
  fs : List (Str × V)
  nm : Str
def PrA (K : PySem.W.Frag) (H : Hp) (u : V) (p : Px) : Prop := ∃ t a, u = .ref t ∧ SqT K H t [.ref a, .str p.nm] ∧ ExA H a p.D p.fs
theorem PrA.ex {K : PySem.W.Frag} {H H' : Hp} {u : V} {p : Px} (x : Ex H H') (h : PrA K H u p) : PrA K H' u p := by
  obtain ⟨t, a, e, h1, h2⟩ := h
  exact ⟨t, a, e, ex_t x h1, h2.ex x⟩
inductive PrAll (K : PySem.W.Frag) (H : Hp) : List V → List Px → Prop
  | nil : PrAll K H [] []
  | cons {u : V} {p : Px} {us : List V} {ps : List Px} (h : PrA K H u p) (t : PrAll K H us ps) : PrAll K H (u :: us) (p :: ps)
theorem PrAll.ex {K : PySem.W.Frag} {H H' : Hp} {us : List V} {ps : List Px} (x : Ex H H') (h : PrAll K H us ps) : PrAll K H' us ps := by
  induction h with
  | nil => exact .nil
  | cons h _ ih => exact .cons (h.ex x) ih
theorem PrAll.len {K : PySem.W.Frag} {H : Hp} {us : List V} {ps : List Px} (h : PrAll K H us ps) : us.length = ps.length := by
  induction h with
  | nil => rfl
  | cons _ _ ih => rw [List.length_cons, List.length_cons, ih]
theorem PrAll.at {K : PySem.W.Frag} {H : Hp} {us : List V} {ps : List Px} (h : PrAll K H us ps) {i : Nat} {u : V} (e : us[i]? = some u) : ∃ p, ps[i]? = some p ∧ PrA K H u p := by
  induction h generalizing i with
  | nil => cases e
  | cons h _ ih =>
    cases i with
    | zero =>
      cases e
      exact ⟨_, rfl, h⟩
    | succ i => exact ih e
theorem PrAll.app {K : PySem.W.Frag} {H : Hp} {us vs : List V} {ps qs : List Px} (h : PrAll K H us ps) (g : PrAll K H vs qs) : PrAll K H (us ++ vs) (ps ++ qs) := by
  induction h with
  | nil => exact g
  | cons h _ ih => exact .cons h ih
/-- an exception is made -/
def EvX (te : TE) (σ : L2.St) (H : Hp) (D : Addr) (fs : List (Str × V)) : Prop := ∀ H1, Ex H H1 → ∀ Q : VK, (∀ a H2, Ex H1 H2 → ExA H2 a D fs → Q (.ref a) H2) → te σ H1 Q
def EvP (K : PySem.W.Frag) (te : TE) (σ : L2.St) (H : Hp) (p : Px) : Prop := ∀ H1, Ex H H1 → ∀ Q : VK, (∀ u H2, Ex H1 H2 → PrA K H2 u p → Q u H2) → te σ H1 Q
def EvPs (K : PySem.W.Frag) (ta : TA) (σ : L2.St) (H : Hp) (ps : List Px) : Prop := ∀ H1, Ex H H1 → ∀ Q : List V → Hp → Prop, (∀ us H2, Ex H1 H2 → PrAll K H2 us ps → Q us H2) → ta σ H1 Q
def EvPL (K : PySem.W.Frag) (te : TE) (σ : L2.St) (H : Hp) (ps : List Px) : Prop := ∀ H1, Ex H H1 → ∀ Q : VK, (∀ L us H2, Ex H1 H2 → H2 L = some (.lst us) → PrAll K H2 us ps → Q (.ref L) H2) → te σ H1 Q
section
variable {K : PySem.W.Frag} {σ : L2.St} {H : Hp} {te : TE} {ta tb : TA} {C : Addr} {f : Str} {fs : List (Str × V)} {p : Px} {ps qs : List Px}
theorem evp_tup {D : Addr} {nm : Str} (h : EvX te σ H D fs) : EvP K (tTup (tCons te (tCons (tC (.str nm)) tNil))) σ H ⟨D, fs, nm⟩ := fun H1 x1 Q q =>
  h H1 x1 _ fun a H2 x2 ha => ⟨sz_of (by simp), fun t nt => q _ _ (x2.trans (Ex.new nt)) ⟨t, a, rfl, st_of upd_same, ha.ex (Ex.new nt)⟩⟩
theorem eps_nil : EvPs K tNil σ H [] := fun H1 _ Q q => q [] H1 (Ex.refl H1) .nil
theorem eps_cons (h : EvP K te σ H p) (t : EvPs K ta σ H ps) : EvPs K (tCons te ta) σ H (p :: ps) := fun H1 x1 Q q =>
  h H1 x1 _ fun u H2 x2 hu => t H2 (x1.trans x2) _ fun us H3 x3 hus => q _ H3 (x2.trans x3) (.cons (hu.ex x3) hus)
theorem epl_lst (h : EvPs K ta σ H ps) (few : ps.length ≤ 1000) : EvPL K (tLst ta) σ H ps := fun H1 x1 Q q =>
  h H1 x1 _ fun us H2 x2 hus => ⟨sz_of (by rw [hus.len]; omega), fun L nL => q L us _ (x2.trans (Ex.new nL)) upd_same (hus.ex (Ex.new nL))⟩
theorem epl_var {i : Nat} {L : Addr} {us : List V} (hi : σ[i]? = some (some (.ref L))) (hL : H L = some (.lst us)) (h : PrAll K H us ps) : EvPL K (tVar i) σ H ps := fun H1 x1 Q q =>
  ⟨.ref L, hi, q L us H1 (Ex.refl H1) (x1 _ _ hL) (h.ex x1)⟩
theorem epl_cat {t1 t2 : TE} (h : EvPL K t1 σ H ps) (g : EvPL K t2 σ H qs) (few : ps.length + qs.length ≤ 1000) : EvPL K (tOp rCat t1 t2) σ H (ps ++ qs) := fun H1 x1 Q q =>
  h H1 x1 _ fun L us H2 x2 hL hus => g H2 (x1.trans x2) _ fun M vs H3 x3 hM hvs => ⟨L, M, us, vs, rfl, rfl, x3 _ _ hL, hM, sz_of (by rw [hus.len, hvs.len]; omega), fun s ns => q s _ _ ((x2.trans x3).trans (Ex.new ns)) upd_same (((hus.ex x3).app hvs).ex (Ex.new ns))⟩
theorem evx_1 {t1 : TE} (h : Ev t1 σ H (.str "x")) : EvX (fun σ H Q => t1 σ H fun _ H1 => ∀ a, H1 a = none → Q (.ref a) (upd H1 a (ExO (.ref C) a))) σ H C [] := fun H1 x1 Q q =>
  h H1 x1 _ fun H2 x2 => fun a na => q a _ (x2.trans (Ex.new na)) (.inr ⟨rfl, upd_same⟩)
/-- an own __init__ that keeps a text as its field f -/
def spXS (C : Addr) (f : Str) : Sp := fun vs H Q _ => ∃ (a : Addr) (s : Str), vs = [.ref a, .str s] ∧ H a = some (exo a C none) ∧ s.length ≤ 1000 ∧
  ∀ d H', H d = none → d ≠ a → H' a = some (exo a C (some d)) → H' d = some (exd d [(f, .str s)]) → (∀ b o, b ≠ a → H b = some o → H' b = some o) → Q .non H'
theorem x_end {v : V} {Q : VK} {H2 : Hp} {a : Addr} (na : H2 a = none) (q : ∀ H', Ex H2 H' → ExA H' a C [(f, v)] → Q (.ref a) H') {d : Addr} {H' : Hp} (h1 : H' a = some (exo a C (some d))) (h2 : H' d = some (exd d [(f, v)])) (k : ∀ b o, b ≠ a → (upd H2 a (exo a C none)) b = some o → H' b = some o) : Q (.ref a) H' :=
  q H' (fun b o e => by
    have ba : b ≠ a := fun z => by rw [z, na] at e; cases e
    exact k b o ba ((upd_ne ba).trans e)) (.inl ⟨d, h1, h2⟩)
theorem evx_int {i : Int} (h : Ev te σ H (.int i)) (hi : i.natAbs.log2 < 1920) : EvX (tVal C (spX1 C f) [] (tCons te tNil)) σ H C [(f, .int i)] := fun H1 x1 Q q =>
  h H1 x1 _ fun H2 x2 => ⟨by simp, fun a na => ⟨a, i, rfl, upd_same, hi, fun d H' _ _ h1 h2 k => ⟨rfl, x_end na (fun H3 x3 e => q a H3 (x2.trans x3) e) h1 h2 k⟩⟩⟩
theorem evx_txt {s : Str} (h : Ev te σ H (.str s)) (hs : s.length ≤ 1000) : EvX (tVal C (spXS C f) [] (tCons te tNil)) σ H C [(f, .str s)] := fun H1 x1 Q q =>
  h H1 x1 _ fun H2 x2 => ⟨by simp, fun a na => ⟨a, s, rfl, upd_same, hs, fun d H' _ _ h1 h2 k => ⟨rfl, x_end na (fun H3 x3 e => q a H3 (x2.trans x3) e) h1 h2 k⟩⟩⟩
theorem evx_non : EvX (tVal C (spXO C f) [.non] tNil) σ H C [(f, .non)] := fun H1 x1 Q q =>
  ⟨Nat.zero_le _, fun a na => ⟨a, .non, rfl, upd_same, .inl rfl, fun d H' _ _ h1 h2 k => ⟨rfl, x_end na (fun H3 x3 e => q a H3 x3 e) h1 h2 k⟩⟩⟩
theorem evx_o {i : Int} (h : Ev te σ H (.int i)) (hi : i.natAbs.log2 < 1920) : EvX (tVal C (spXO C f) [] (tCons te tNil)) σ H C [(f, .int i)] := fun H1 x1 Q q =>
  h H1 x1 _ fun H2 x2 => ⟨by simp, fun a na => ⟨a, .int i, rfl, upd_same, .inr ⟨i, rfl, hi⟩, fun d H' _ _ h1 h2 k => ⟨rfl, x_end na (fun H3 x3 e => q a H3 (x2.trans x3) e) h1 h2 k⟩⟩⟩
theorem evx_k {i : Int} (h : Ev te σ H (.int i)) (hi : i.natAbs.log2 < 1920) : EvX (tValK C (spX1 C f) (tCons te tNil)) σ H C [(f, .int i)] := fun H1 x1 Q q =>
  h H1 x1 _ fun H2 x2 => ⟨rfl, fun a na => ⟨a, i, rfl, upd_same, hi, fun d H' _ _ h1 h2 k => ⟨rfl, x_end na (fun H3 x3 e => q a H3 (x2.trans x3) e) h1 h2 k⟩⟩⟩
theorem evx_ko {i : Int} (h : Ev te σ H (.int i)) (hi : i.natAbs.log2 < 1920) : EvX (tValK C (spXO C f) (tCons te tNil)) σ H C [(f, .int i)] := fun H1 x1 Q q =>
  h H1 x1 _ fun H2 x2 => ⟨rfl, fun a na => ⟨a, .int i, rfl, upd_same, .inr ⟨i, rfl, hi⟩, fun d H' _ _ h1 h2 k => ⟨rfl, x_end na (fun H3 x3 e => q a H3 (x2.trans x3) e) h1 h2 k⟩⟩⟩
theorem evx_kt {s : Str} (h : Ev te σ H (.str s)) (hs : s.length ≤ 1000) : EvX (tValK C (spXS C f) (tCons te tNil)) σ H C [(f, .str s)] := fun H1 x1 Q q =>
  h H1 x1 _ fun H2 x2 => ⟨rfl, fun a na => ⟨a, s, rfl, upd_same, hs, fun d H' _ _ h1 h2 k => ⟨rfl, x_end na (fun H3 x3 e => q a H3 (x2.trans x3) e) h1 h2 k⟩⟩⟩
/-- a field of one that is made -/
theorem xo_of {n : Str} {v : V} {D : Addr} {Q : VK} (h : EvX te σ H D fs) (hl : fs.lookup n = some v) (q : ∀ H', Ex H H' → Q v H') : tXo D n te σ H Q :=
  h H (Ex.refl H) _ fun a H2 x2 ha => ⟨a, fs, v, rfl, ha, hl, q H2 x2⟩
/-- a comprehension over a list that makes what is known at each place -/
theorem lc_vals {us : List V} {i j : Nat} {L : Addr} {vs : List Nat} {t : TT} {Q : VK} (g : Nat → Bool) (val : Nat → V) (few : us.length ≤ 1000) (hi : σ[i]? = some (some (.ref L))) (hL : H L = some (.lst us))
    (hw : ∀ x, wipe ((wipe σ vs).set j (some x)) vs = wipe σ vs)
    (ht : ∀ n u H1, us[n]? = some u → Ex H H1 → EvT t ((wipe σ vs).set j (some u)) H1 (g n))
    (he : ∀ n u H1, us[n]? = some u → g n = true → Ex H H1 → Ev te ((wipe σ vs).set j (some u)) H1 (val n))
    (q : ∀ D H', H D = none → Ex H H' → H' D = some (.lst (((List.range us.length).filter g).map val)) → Q (.ref D) H') : tLc (iList K (tVar i)) (gName j) t te vs σ H Q := by
  refine ⟨.ref L, hi, L, rfl, ⟨_, sq_of hL⟩, fun D hD => ?_⟩
  refine lc_list (K := K) (xs := us) (fun n H' => Ex H H' ∧ H' D = some (.lst (((List.range n).filter g).map val))) ⟨Ex.new hD, upd_same⟩ (fun n H' _ p => sq_of (p.1 _ _ hL)) (fun n x H' hx p => ?_) (fun H' p => q D H' hD p.1 p.2)
  obtain ⟨xH, hacc⟩ := p
  refine ⟨hw _, ?_⟩
  refine ht n x H' hx xH H' (Ex.refl H') _ fun H3 x3 => ?_
  have l1 : ((List.range n).filter g).length ≤ n := by
    have := List.length_filter_le g (List.range n)
    rw [List.length_range] at this
    exact this
  have ln : n < us.length := (List.getElem?_eq_some_iff.mp hx).1
  cases hf : g n with
  | true =>
    rw [if_pos rfl]
    refine he n x H3 hx hf (xH.trans x3) H3 (Ex.refl H3) _ fun H4 x4 => ⟨_, x4 _ _ (x3 _ _ hacc), sz_lt (by rw [List.length_map]; omega), ((xH.trans x3).trans x4).mut hD, ?_⟩
    rw [upd_same, List.range_succ, List.filter_append, List.filter_cons_of_pos hf, List.filter_nil, List.map_append]
    rfl
  | false =>
    rw [if_neg Bool.false_ne_true]
    refine ⟨xH.trans x3, ?_⟩
    rw [List.range_succ, List.filter_append, List.filter_cons_of_neg (by rw [hf]; exact Bool.false_ne_true), List.filter_nil, List.append_nil]
    exact x3 _ _ hacc
end
/-! the same of exceptions alone -/
def XA (H : Hp) (u : V) (p : Px) : Prop := ∃ a, u = .ref a ∧ ExA H a p.D p.fs
inductive XAll (H : Hp) : List V → List Px → Prop
  | nil : XAll H [] []
  | cons {u : V} {p : Px} {us : List V} {ps : List Px} (h : XA H u p) (t : XAll H us ps) : XAll H (u :: us) (p :: ps)
theorem XAll.ex {H H' : Hp} {us : List V} {ps : List Px} (x : Ex H H') (h : XAll H us ps) : XAll H' us ps := by
  induction h with
  | nil => exact .nil
  | cons h _ ih =>
    obtain ⟨a, e, z⟩ := h
    exact .cons ⟨a, e, z.ex x⟩ ih
theorem XAll.len {H : Hp} {us : List V} {ps : List Px} (h : XAll H us ps) : us.length = ps.length := by
  induction h with
  | nil => rfl
  | cons _ _ ih => rw [List.length_cons, List.length_cons, ih]
theorem XAll.at {H : Hp} {us : List V} {ps : List Px} (h : XAll H us ps) {i : Nat} {u : V} (e : us[i]? = some u) : ∃ p, ps[i]? = some p ∧ XA H u p := by
  induction h generalizing i with
  | nil => cases e
  | cons h _ ih =>
    cases i with
    | zero =>
      cases e
      exact ⟨_, rfl, h⟩
    | succ i => exact ih e
theorem XAll.app {H : Hp} {us vs : List V} {ps qs : List Px} (h : XAll H us ps) (g : XAll H vs qs) : XAll H (us ++ vs) (ps ++ qs) := by
  induction h with
  | nil => exact g
  | cons h _ ih => exact .cons h ih
def EvXs (ta : TA) (σ : L2.St) (H : Hp) (ps : List Px) : Prop := ∀ H1, Ex H H1 → ∀ Q : List V → Hp → Prop, (∀ us H2, Ex H1 H2 → XAll H2 us ps → Q us H2) → ta σ H1 Q
def EvXL (te : TE) (σ : L2.St) (H : Hp) (ps : List Px) : Prop := ∀ H1, Ex H H1 → ∀ Q : VK, (∀ L us H2, Ex H1 H2 → H2 L = some (.lst us) → XAll H2 us ps → Q (.ref L) H2) → te σ H1 Q
section
variable {σ : L2.St} {H : Hp} {te : TE} {ta : TA} {D : Addr} {fs : List (Str × V)} {nm : Str} {ps qs : List Px}
theorem exs_nil : EvXs tNil σ H [] := fun H1 _ Q q => q [] H1 (Ex.refl H1) .nil
theorem exs_cons (h : EvX te σ H D fs) (t : EvXs ta σ H ps) : EvXs (tCons te ta) σ H (⟨D, fs, nm⟩ :: ps) := fun H1 x1 Q q =>
  h H1 x1 _ fun a H2 x2 ha => t H2 (x1.trans x2) _ fun us H3 x3 hus => q _ H3 (x2.trans x3) (.cons ⟨a, rfl, ha.ex x3⟩ hus)
theorem exl_lst (h : EvXs ta σ H ps) (few : ps.length ≤ 1000) : EvXL (tLst ta) σ H ps := fun H1 x1 Q q =>
  h H1 x1 _ fun us H2 x2 hus => ⟨sz_of (by rw [hus.len]; omega), fun L nL => q L us _ (x2.trans (Ex.new nL)) upd_same (hus.ex (Ex.new nL))⟩
theorem exl_var {i : Nat} {L : Addr} {us : List V} (hi : σ[i]? = some (some (.ref L))) (hL : H L = some (.lst us)) (h : XAll H us ps) : EvXL (tVar i) σ H ps := fun H1 x1 Q q =>
  ⟨.ref L, hi, q L us H1 (Ex.refl H1) (x1 _ _ hL) (h.ex x1)⟩
theorem exl_cat {t1 t2 : TE} (h : EvXL t1 σ H ps) (g : EvXL t2 σ H qs) (few : ps.length + qs.length ≤ 1000) : EvXL (tOp rCat t1 t2) σ H (ps ++ qs) := fun H1 x1 Q q =>
  h H1 x1 _ fun L us H2 x2 hL hus => g H2 (x1.trans x2) _ fun M vs H3 x3 hM hvs => ⟨L, M, us, vs, rfl, rfl, x3 _ _ hL, hM, sz_of (by rw [hus.len, hvs.len]; omega), fun s ns => q s _ _ ((x2.trans x3).trans (Ex.new ns)) upd_same (((hus.ex x3).app hvs).ex (Ex.new ns))⟩
end
end K49
namespace K49
open PySem L2 L2H PyProof.Rows Tc Evl
abbrev flX (a n : Nat) : List Bool := (List.range 26).map fun i => decide (i = a ∨ i = n ∨ i = 25)
abbrev rAddS : R2 := fun x y H Q => ∃ i j, x = V.str i ∧ y = V.str j ∧ i.length + j.length ≤ sizeLine ∧ Q (V.str (i ++ j)) H
/-- a class without an __init__ of its own -/
structure X0 (K : PySem.W.Frag) (mg : Str → Option Value) (x : Str) (C : Addr) (fl : List Bool) : Prop where
  e0 : OwnE0 K mg x C [.type "ValueError", .type "Exception", .type "BaseException", .type "object"]
  kd : Kd K mg C fl
  kt : ∃ c, mg "TideError" = some (.ref c) ∧ PySem.W.kitOne K (.ref C) (.ref c) = some true
/-- a class that keeps a field -/
structure Xi (P : Program) (w : World) (K : PySem.W.Frag) (mg : Str → Option Value) (base : Heap) (x f : Str) (C : Addr) (k : Nat) (fl : List Bool) (sp : Sp) : Prop where
  ed : OwnED P w K mg base x C ["self", f] [] k sp
  ek : OwnEK P w K mg base x C f k sp
  kd : Kd K mg C fl
  xf : XfC K C
  nf : PySem.W.findIn K (.ref C) f = some none
  kt : ∃ c, mg "TideError" = some (.ref c) ∧ PySem.W.kitOne K (.ref C) (.ref c) = some true
/-- NoText -/
structure Xn (P : Program) (w : World) (K : PySem.W.Frag) (mg : Str → Option Value) (base : Heap) (C : Addr) (k : Nat) (fl : List Bool) : Prop where
  e0 : OwnED P w K mg base "NoText" C ["self", "line"] [.non] k (spXO C "line")
  ed : OwnED P w K mg base "NoText" C ["self", "line"] [] k (spXO C "line")
  ek : OwnEK P w K mg base "NoText" C "line" k (spXO C "line")
  kd : Kd K mg C fl
  xf : XfC K C
  nf : PySem.W.findIn K (.ref C) "line" = some none
  kt : ∃ c, mg "TideError" = some (.ref c) ∧ PySem.W.kitOne K (.ref C) (.ref c) = some true
theorem if_op {r : R2} {ta tb : TE} {σ : L2.St} {H : Hp} {D : Ends} {tu tw : TS} (h : ta σ H fun x H1 => tb σ H1 fun y H2 => r x y H2 fun v H3 => ∃ k, v = .bl k ∧ if k = true then tu D σ H3 else tw D σ H3) : tIfS (tTest (tOp r ta tb)) tu tw D σ H := h
theorem or_ops {r : R2} {t2 : TT} {ta tb : TE} {σ : L2.St} {H : Hp} {D : Ends} {tu tw : TS} (h : ta σ H fun x H1 => tb σ H1 fun y H2 => r x y H2 fun v H3 => ∃ k, v = .bl k ∧ if k = true then (if true = true then tu D σ H3 else tw D σ H3) else tIfS t2 tu tw D σ H3) : tIfS (tOr (tTest (tOp r ta tb)) t2) tu tw D σ H := h
theorem rv_adds {H : Hp} {s t : Str} (h : s.length + t.length ≤ 1000) : RV rAddS (.str s) (.str t) H (.str (s ++ t)) := fun H1 _ _ q => ⟨s, t, rfl, rfl, sz_of (by omega), q H1 (Ex.refl H1)⟩
theorem big_log {i : Int} (h : i.natAbs < 2 ^ 130) : i.natAbs.log2 < 1920 := by
  by_cases z : i.natAbs = 0
  · rw [z]; decide
  · exact Nat.lt_of_lt_of_le ((Nat.log2_lt z).mpr h) (by decide)
/-- made right, with the word of its family ahead -/
def Good (K : PySem.W.Frag) (mg : Str → Option Value) (word : Str) (p : Px) : Prop := ∃ fl, Kd K mg p.D fl ∧ (∃ c, mg "TideError" = some (.ref c) ∧ PySem.W.kitOne K (.ref p.D) (.ref c) = some true) ∧ word.length + p.nm.length ≤ 100 ∧ Txt.join "" (kindsL fl) = (word ++ p.nm) ++ "+"
/-- its field is the number -/
def Fld (K : PySem.W.Frag) (mg : Str → Option Value) (man : Int) (p : Px) : Prop := ∃ fl n, Kd K mg p.D fl ∧ XfC K p.D ∧ fieldOf fl = some n ∧ PySem.W.findIn K (.ref p.D) n = some none ∧ p.fs.lookup n = some (.int man)
theorem et_mr {K : PySem.W.Frag} {mg : Str → Option Value} {word : Str} {p : Px} {σ : L2.St} {H : Hp} {u : V} {i : Nat} (g : Good K mg word p) (h : PrA K H u p) (hi : σ[i]? = some (some u)) : EvT (tNot (tB (tCall (spMr K mg) [] E0 (tCons (tOp (rIxT K) (tVar i) (tC (.int 0))) (tCons (tOp rAddS (tC (.str word)) (tOp (rIxT K) (tVar i) (tC (.int 1)))) tNil))))) σ H false := by
  obtain ⟨t, a, rfl, hs, ha⟩ := h
  obtain ⟨fl, kd, kt, le, tx⟩ := g
  refine et_not (a := true) (et_B fun J xJ Q q => ?_)
  have A : EvA (tCons (tOp (rIxT K) (tVar i) (tC (.int 0))) (tCons (tOp rAddS (tC (.str word)) (tOp (rIxT K) (tVar i) (tC (.int 1)))) tNil)) σ H [.ref a, .str (word ++ p.nm)] := ea_cons (ev_ix0 (ev_var hi) hs) (ea_cons (ev_op ev_c (ev_ixT (j := 1) (ev_var hi) hs rfl) (rv_adds (by omega))) ea_nil)
  exact A J xJ _ fun J2 x2 => ⟨a, p.D, p.fs, fl, word ++ p.nm, rfl, kd, kt, ha.ex (xJ.trans x2), by rw [Str.length_append]; omega, tx, fun H' x' => q H' (x2.trans x')⟩
theorem ev_fd {K : PySem.W.Frag} {mg : Str → Option Value} {man : Int} {p : Px} {σ : L2.St} {H : Hp} {a : Addr} {te : TE} (g : Fld K mg man p) (hx : ExA H a p.D p.fs) (he : Ev te σ H (.ref a)) : Ev (tCall (spFdO K mg) [] E0 (tCons te tNil)) σ H (.int man) := fun J xJ Q q => by
  obtain ⟨fl, n, kd, xf, fo, nf, lo⟩ := g
  exact (ea_cons he ea_nil) J xJ _ fun J2 x2 => ⟨a, p.D, fl, n, p.fs, .int man, rfl, kd, xf, hx.ex (xJ.trans x2), fo, nf, lo, fun H' x' => q H' (x2.trans x')⟩
theorem none_left {K : PySem.W.Frag} {σ : L2.St} {H : Hp} {D : Addr} {n : Nat} {val : Nat → V} {Q : VK} (hD : H D = some (.lst (((List.range n).filter fun _ => false).map val))) (q : ∀ H', Ex H H' → Q (.bl false) H') : tLst tNil σ H fun y H2 => rNeE K (.ref D) y H2 Q :=
  ⟨Nat.zero_le _, fun p np => ⟨D, p, _, rfl, rfl, sq_of ((Ex.new np) _ _ hD), sq_of upd_same, by
    have e : ((List.range n).filter fun _ => false) = [] := List.filter_eq_nil_iff.mpr fun _ _ => Bool.false_ne_true
    rw [e]
    exact q _ (Ex.new np)⟩⟩
theorem flat_rep {α : Type} (x : α) : ∀ n : Nat, (List.replicate n [x]).flatten = List.replicate n x
  | 0 => rfl
  | n + 1 => by
    rw [List.replicate_succ, List.flatten_cons, flat_rep x n]
    rfl
theorem dps_rep {K : PySem.W.Frag} {H : Hp} (man : Int) : ∀ n : Nat, DpAll K H (List.replicate n (V.int man)) (List.replicate n (.int man))
  | 0 => .nil
  | n + 1 => .cons (.int _) (dps_rep man n)
theorem reps_eq {K : PySem.W.Frag} {σ : L2.St} {H : Hp} {D : Addr} {n : Nat} {man : Int} {i : Nat} {Q : VK} (n20 : n ≤ 20) (hi : σ[i]? = some (some (.int man))) (hD : H D = some (.lst (List.replicate n (V.int man)))) (q : ∀ H', Ex H H' → Q (.bl false) H') : tOp rRep (tLst (tCons (tVar i) tNil)) (tC (.int (n : Int))) σ H fun y H2 => rNeD K (.ref D) y H2 Q := by
  refine ⟨.int man, hi, sz_of (by simp), fun p np => ⟨p, (n : Int), [.int man], rfl, rfl, upd_same, by omega, by omega, sz_of (by simp; omega), fun p2 np2 => ?_⟩⟩
  have x1 := Ex.new (o := .lst [V.int man]) np
  have x2 := Ex.new (o := .lst (List.replicate (n : Int).toNat [V.int man]).flatten) np2
  have s : sd 1 (.list (List.replicate n (PyData.int man))) = true := by
    show (List.replicate n (PyData.int man)).all (fun d => sd 0 d) = true
    exact List.all_eq_true.mpr fun d md => by
      rw [List.eq_of_mem_replicate md]
      rfl
  refine ⟨_, _, .lst (sq_of (x2 _ _ (x1 _ _ hD))) (dps_rep man n), .lst (sq_of upd_same) (by rw [Int.toNat_natCast, flat_rep]; exact dps_rep man n), sd_sh s (by decide), sd_sh s (by decide), ?_⟩
  rw [sd_eq s]
  exact q _ (x1.trans x2)
theorem all_rep {α : Type} (x : α) (n : Nat) : ((List.range n).filter fun _ => true).map (fun _ => x) = List.replicate n x := by
  rw [List.filter_eq_self.mpr fun _ _ => rfl, List.map_const', List.length_range]
theorem some_rep {α : Type} (x : α) : ((List.range 14).filter fun n => decide (n = 0 ∨ n = 5 ∨ n = 9)).map (fun _ => x) = List.replicate 3 x := by
  rw [show ((List.range 14).filter fun n => decide (n = 0 ∨ n = 5 ∨ n = 9)) = [0, 5, 9] by decide +kernel]
  rfl
theorem et_nm {K : PySem.W.Frag} {σ : L2.St} {H : Hp} {u : V} {p : Px} {i : Nat} {a b c : Str} (h : PrA K H u p) (hi : σ[i]? = some (some u)) : EvT (tTest (tOp (rIn K false) (tOp (rIxT K) (tVar i) (tC (.int 1))) (tLst (tCons (tC (.str a)) (tCons (tC (.str b)) (tCons (tC (.str c)) tNil)))))) σ H (decide (p.nm ∈ [a, b, c])) := by
  obtain ⟨t, a', rfl, hs, _⟩ := h
  refine et_test (fun J xJ Q q => ?_)
  refine (ev_ixT (j := 1) (ev_var hi) hs rfl) J xJ _ fun J2 x2 => ⟨sz_of (by simp), fun l nl => ⟨l, [.str a, .str b, .str c], rfl, .inl (sq_of upd_same), rfl, rfl, ?_⟩⟩
  rw [if_neg Bool.false_ne_true, show [V.str a, V.str b, V.str c] = ([a, b, c] : List Str).map V.str from rfl, inV_str]
  exact q _ (x2.trans (Ex.new nl))
def nmA : List Str := ["NoPlace", "NoLife", "NoReading", "Ended", "NotEnded", "Held", "Trimmed", "Waits", "NotAsked", "NoKey", "NotSure", "NoTaker", "NotOnWire", "NothingLeft"]
theorem nmA_chk : ((List.range 14).all fun n => match nmA[n]? with | some s => decide (s ∈ (["NoPlace", "Held", "NoKey"] : List Str)) == decide (n = 0 ∨ n = 5 ∨ n = 9) | none => true) = true := by decide +kernel
theorem nmA_tab {n : Nat} {s : Str} (h : nmA[n]? = some s) : decide (s ∈ (["NoPlace", "Held", "NoKey"] : List Str)) = decide (n = 0 ∨ n = 5 ∨ n = 9) := by
  have l : n < 14 := (List.getElem?_eq_some_iff.mp h).1
  have := List.all_eq_true.mp nmA_chk n (List.mem_range.mpr l)
  rw [h] at this
  exact eq_of_beq this
theorem nt_ok {σ : L2.St} {H : Hp} {C : Addr} {man : Int} {D : Ends} {tu tw : TS} (h4 : σ[4]? = some (some (.int man))) (hi : man.natAbs.log2 < 1920) (q : ∀ H', Ex H H' → tw D σ H') : tIfS (tOr (tTest (tOp rNotN (tXo C "line" (tVal C (spXO C "line") [.non] tNil)) (tC .non))) (tOr (tTest (tOp rNe (tXo C "line" (tVal C (spXO C "line") [] (tCons (tVar 4) tNil))) (tVar 4))) (tTest (tOp rNe (tXo C "line" (tValK C (spXO C "line") (tCons (tVar 4) tNil))) (tVar 4))))) tu tw D σ H := by
  refine or_ops (xo_of (evx_non (f := "line")) rfl fun Gg x17 => ⟨rfl, _, rfl, ?_⟩)
  rw [decide_eq_true rfl, if_neg (by decide)]
  refine or_ops (xo_of (evx_o (f := "line") (ev_var h4) hi) rfl fun Gh x18 => ⟨.int man, h4, rfl, _, rfl, ?_⟩)
  rw [decide_eq_true rfl, if_neg (by decide)]
  refine if_op (xo_of (evx_ko (f := "line") (ev_var h4) hi) rfl fun Gi x19 => ⟨.int man, h4, rfl, _, rfl, ?_⟩)
  rw [decide_eq_true rfl, if_neg (by decide)]
  exact q _ ((x17.trans x18).trans x19)
abbrev sLaw : Stmt := topS 34
theorem scLaw : FnScope ["script", "k", "bag", "word", "man1", "told", "asked", "some", "pair", "e"] ["script"] (defScope sLaw) := ⟨rfl, rfl, rfl, by decide +kernel, rfl, by decide +kernel, by decide +kernel⟩
def spLaw (K : PySem.W.Frag) : Sp := fun vs H Q _ => ∃ (a : Addr) (ns : List Int), vs = [.ref a] ∧ SqL K H a (ns.map V.int) ∧ ns.length ≤ 63 ∧ ∀ H', Q (.bl true) H'
theorem ev_min2 {σ : L2.St} {H : Hp} {ta tb : TE} {i j : Int} (ha : Ev ta σ H (.int i)) (hb : Ev tb σ H (.int j)) : Ev (tCB (fun xs H Q => ∃ i j, xs = [.int i, .int j] ∧ Q (.int (if j < i then j else i)) H) (tCons ta (tCons tb tNil))) σ H (.int (if j < i then j else i)) :=
  ev_cb (ea_cons ha (ea_cons hb ea_nil)) fun H1 _ _ q => ⟨i, j, rfl, q H1 (Ex.refl H1)⟩
section
variable {P : Program} {w : World} {K : PySem.W.Frag} {mg : Str → Option Value} {base : Heap}
set_option maxHeartbeats 0 in
theorem ok_law {f : Addr} {fd : FuncData} {kT kB kNm kMr kFd k : Nat} (F : Fun K "law" "law" sLaw f fd) (N : Names mg) (dT : Own P w K mg base "_law_take" ["bag", "man1"] kT spTakeW) (hT : kT ≤ k) (dB : Own P w K mg base "_law_bag" ["script", "k"] kB (spBag K)) (hB : kB ≤ k) (dNm : Own P w K mg base "_law_name" ["bag"] kNm spName) (hNm : kNm ≤ k) (dMr : Own P w K mg base "_law_made_right" ["e", "due"] kMr (spMr K mg)) (hMr : kMr ≤ k) (dFd : Own P w K mg base "_law_field" ["e"] kFd (spFdO K mg)) (hFd : kFd ≤ k) {kX : Nat} (hX : kX + 1 ≤ k) {cNoTable : Addr} (xNoTable : X0 K mg "NoTable" cNoTable (flX 1 13)) {cNoChange : Addr} (xNoChange : X0 K mg "NoChange" cNoChange (flX 1 4)) {cNoStretch : Addr} (xNoStretch : X0 K mg "NoStretch" cNoStretch (flX 1 12)) {cNoRows : Addr} (xNoRows : X0 K mg "NoRows" cNoRows (flX 1 11)) {cNoName : Addr} (xNoName : X0 K mg "NoName" cNoName (flX 1 7)) {cNoText : Addr} (xNoText : Xn P w K mg base cNoText kX (flX 1 15)) {cNoRow : Addr} (xNoRow : X0 K mg "NoRow" cNoRow (flX 1 10)) {cTooMany : Addr} (xTooMany : Xi P w K mg base "TooMany" "many" cTooMany kX (flX 1 21) (spX1 cTooMany "many")) {cTwice : Addr} (xTwice : X0 K mg "Twice" cTwice (flX 1 23)) {cNoPlace : Addr} (xNoPlace : Xi P w K mg base "NoPlace" "at" cNoPlace kX (flX 0 8) (spX1 cNoPlace "at")) {cNoLife : Addr} (xNoLife : Xi P w K mg base "NoLife" "who" cNoLife kX (flX 0 6) (spX1 cNoLife "who")) {cNoReading : Addr} (xNoReading : Xi P w K mg base "NoReading" "number" cNoReading kX (flX 0 9) (spX1 cNoReading "number")) {cEnded : Addr} (xEnded : X0 K mg "Ended" cEnded (flX 0 2)) {cNotEnded : Addr} (xNotEnded : X0 K mg "NotEnded" cNotEnded (flX 0 17)) {cHeld : Addr} (xHeld : Xi P w K mg base "Held" "who" cHeld kX (flX 0 3) (spX1 cHeld "who")) {cTrimmed : Addr} (xTrimmed : Xi P w K mg base "Trimmed" "at" cTrimmed kX (flX 0 22) (spX1 cTrimmed "at")) {cWaits : Addr} (xWaits : Xi P w K mg base "Waits" "number" cWaits kX (flX 0 24) (spX1 cWaits "number")) {cNotAsked : Addr} (xNotAsked : Xi P w K mg base "NotAsked" "number" cNotAsked kX (flX 0 16) (spX1 cNotAsked "number")) {cNoKey : Addr} (xNoKey : Xi P w K mg base "NoKey" "key" cNoKey kX (flX 0 5) (spX1 cNoKey "key")) {cNotSure : Addr} (xNotSure : Xi P w K mg base "NotSure" "key" cNotSure kX (flX 0 20) (spX1 cNotSure "key")) {cNoTaker : Addr} (xNoTaker : Xi P w K mg base "NoTaker" "name" cNoTaker kX (flX 0 14) (spXS cNoTaker "name")) {cNotOnWire : Addr} (xNotOnWire : Xi P w K mg base "NotOnWire" "number" cNotOnWire kX (flX 0 19) (spX1 cNotOnWire "number")) {cNothingLeft : Addr} (xNothingLeft : X0 K mg "NothingLeft" cNothingLeft (flX 0 18)) : FnOk P w K mg base CX0 (k + 1) f fd ["script"] (spLaw K) := by
  refine F.ok scLaw (fun vs H Q E h => ?_) (fun cdv A outer s H vs Q E hr h => ?_)
  · obtain ⟨a, ns, rfl, _⟩ := h
    rfl
  · obtain ⟨a, ns, rfl, hs, few, q⟩ := h
    refine ⟨_, (pss_cons (ps_for PassesOwn.never rfl (pi_range1 rfl N.range (pa_cons (pe_op op_add pe_int (pe_callB (call_min2 rfl) (by rfl) N.min boot_min (pa_cons (pe_callB call_len_seq (by rfl) N.len PySem.boot_len (pa_cons (pv 0) pa_nil)) (pa_cons pe_int pa_nil)))) pa_nil)) (pg_name (i := 1) scLaw.nd rfl (by first | exact .inl rfl | exact .inr rfl)) (pss_cons (ps_set (i := 2) scLaw.nd rfl (by first | exact .inl rfl | exact .inr rfl) (pe_own dB hr hB (by rfl) (pa_cons (pv 0) (pa_cons (pv 1) pa_nil))))
      (pss_cons (ps_set (i := 3) scLaw.nd rfl (by first | exact .inl rfl | exact .inr rfl) (pe_ix ix_list (pe_lst (pa_cons (pe_own dNm hr hNm (by rfl) (pa_cons (pv 2) pa_nil)) (pa_cons pe_str (pa_cons pe_str pa_nil)))) (pe_own dT hr hT (by rfl) (pa_cons (pv 2) (pa_cons pe_int pa_nil))) (fun _ _ => rfl)))
      (pss_cons (ps_set (i := 4) scLaw.nd rfl (by first | exact .inl rfl | exact .inr rfl) (pe_op op_sub (pe_own dT hr hT (by rfl) (pa_cons (pv 2) (pa_cons (pe_op op_pow pe_int pe_int) pa_nil))) pe_int))
      (pss_cons (ps_set (i := 5) scLaw.nd rfl (by first | exact .inl rfl | exact .inr rfl) (pe_lst (pa_cons (pe_tup (pa_cons (pe_exc1 PySem.F.excBase_ValueError xNoTable.e0.1 xNoTable.e0.2.1 xNoTable.e0.2.2.1 (by rfl) pe_str) (pa_cons pe_str pa_nil))) (pa_cons (pe_tup (pa_cons (pe_exc1 PySem.F.excBase_ValueError xNoChange.e0.1 xNoChange.e0.2.1 xNoChange.e0.2.2.1 (by rfl) pe_str) (pa_cons pe_str pa_nil))) (pa_cons (pe_tup (pa_cons (pe_exc1 PySem.F.excBase_ValueError xNoStretch.e0.1 xNoStretch.e0.2.1 xNoStretch.e0.2.2.1 (by rfl) pe_str) (pa_cons pe_str pa_nil))) pa_nil)))))
      (pss_cons (ps_set (i := 5) scLaw.nd rfl (by first | exact .inl rfl | exact .inr rfl) (pe_op op_cat (pv 5) (pe_lst (pa_cons (pe_tup (pa_cons (pe_exc1 PySem.F.excBase_ValueError xNoRows.e0.1 xNoRows.e0.2.1 xNoRows.e0.2.2.1 (by rfl) pe_str) (pa_cons pe_str pa_nil))) (pa_cons (pe_tup (pa_cons (pe_exc1 PySem.F.excBase_ValueError xNoName.e0.1 xNoName.e0.2.1 xNoName.e0.2.2.1 (by rfl) pe_str) (pa_cons pe_str pa_nil))) (pa_cons (pe_tup (pa_cons (pe_val0 xNoText.e0 hr hX (by rfl)) (pa_cons pe_str pa_nil))) (pa_cons (pe_tup (pa_cons (pe_exc1 PySem.F.excBase_ValueError xNoRow.e0.1 xNoRow.e0.2.1 xNoRow.e0.2.2.1 (by rfl) pe_str) (pa_cons pe_str pa_nil))) pa_nil)))))))
      (pss_cons (ps_set (i := 5) scLaw.nd rfl (by first | exact .inl rfl | exact .inr rfl) (pe_op op_cat (pv 5) (pe_lst (pa_cons (pe_tup (pa_cons (pe_val xTooMany.ed hr hX (by rfl) (pa_cons (pv 4) pa_nil)) (pa_cons pe_str pa_nil))) (pa_cons (pe_tup (pa_cons (pe_exc1 PySem.F.excBase_ValueError xTwice.e0.1 xTwice.e0.2.1 xTwice.e0.2.2.1 (by rfl) pe_str) (pa_cons pe_str pa_nil))) pa_nil)))))
      (pss_cons (ps_set (i := 6) scLaw.nd rfl (by first | exact .inl rfl | exact .inr rfl) (pe_lst (pa_cons (pe_tup (pa_cons (pe_val xNoPlace.ed hr hX (by rfl) (pa_cons (pv 4) pa_nil)) (pa_cons pe_str pa_nil))) (pa_cons (pe_tup (pa_cons (pe_val xNoLife.ed hr hX (by rfl) (pa_cons (pv 4) pa_nil)) (pa_cons pe_str pa_nil))) (pa_cons (pe_tup (pa_cons (pe_val xNoReading.ed hr hX (by rfl) (pa_cons (pv 4) pa_nil)) (pa_cons pe_str pa_nil))) pa_nil)))))
      (pss_cons (ps_set (i := 6) scLaw.nd rfl (by first | exact .inl rfl | exact .inr rfl) (pe_op op_cat (pv 6) (pe_lst (pa_cons (pe_tup (pa_cons (pe_exc1 PySem.F.excBase_ValueError xEnded.e0.1 xEnded.e0.2.1 xEnded.e0.2.2.1 (by rfl) pe_str) (pa_cons pe_str pa_nil))) (pa_cons (pe_tup (pa_cons (pe_exc1 PySem.F.excBase_ValueError xNotEnded.e0.1 xNotEnded.e0.2.1 xNotEnded.e0.2.2.1 (by rfl) pe_str) (pa_cons pe_str pa_nil))) (pa_cons (pe_tup (pa_cons (pe_val xHeld.ed hr hX (by rfl) (pa_cons (pv 4) pa_nil)) (pa_cons pe_str pa_nil))) pa_nil))))))
      (pss_cons (ps_set (i := 6) scLaw.nd rfl (by first | exact .inl rfl | exact .inr rfl) (pe_op op_cat (pv 6) (pe_lst (pa_cons (pe_tup (pa_cons (pe_val xTrimmed.ed hr hX (by rfl) (pa_cons (pv 4) pa_nil)) (pa_cons pe_str pa_nil))) (pa_cons (pe_tup (pa_cons (pe_val xWaits.ed hr hX (by rfl) (pa_cons (pv 4) pa_nil)) (pa_cons pe_str pa_nil))) (pa_cons (pe_tup (pa_cons (pe_val xNotAsked.ed hr hX (by rfl) (pa_cons (pv 4) pa_nil)) (pa_cons pe_str pa_nil))) pa_nil))))))
      (pss_cons (ps_set (i := 6) scLaw.nd rfl (by first | exact .inl rfl | exact .inr rfl) (pe_op op_cat (pv 6) (pe_lst (pa_cons (pe_tup (pa_cons (pe_val xNoKey.ed hr hX (by rfl) (pa_cons (pv 4) pa_nil)) (pa_cons pe_str pa_nil))) (pa_cons (pe_tup (pa_cons (pe_val xNotSure.ed hr hX (by rfl) (pa_cons (pv 4) pa_nil)) (pa_cons pe_str pa_nil))) (pa_cons (pe_tup (pa_cons (pe_val xNoTaker.ed hr hX (by rfl) (pa_cons (pv 3) pa_nil)) (pa_cons pe_str pa_nil))) pa_nil))))))
      (pss_cons (ps_set (i := 6) scLaw.nd rfl (by first | exact .inl rfl | exact .inr rfl) (pe_op op_cat (pv 6) (pe_lst (pa_cons (pe_tup (pa_cons (pe_val xNotOnWire.ed hr hX (by rfl) (pa_cons (pv 4) pa_nil)) (pa_cons pe_str pa_nil))) (pa_cons (pe_tup (pa_cons (pe_exc1 PySem.F.excBase_ValueError xNothingLeft.e0.1 xNothingLeft.e0.2.1 xNothingLeft.e0.2.2.1 (by rfl) pe_str) (pa_cons pe_str pa_nil))) pa_nil)))))
      (pss_cons (ps_if (pt_cmpR (op_neE hr.units) (pe_lc (own := [("pair", 8)]) (g := gName 8) (tt := (tNot (tB (tCall (spMr K mg) [] E0 (tCons (tOp (rIxT K) (tVar 8) (tC (.int 0))) (tCons (tOp rAddS (tC (.str "told ")) (tOp (rIxT K) (tVar 8) (tC (.int 1)))) tNil)))))) (te := tVar 8) rfl scLaw.nd (pi_list (pv 5)) (blkOk_by (N := ["script", "k", "bag", "word", "man1", "told", "asked", "some", "pair", "e"]) (sc := defScope sLaw) (by decide +kernel)) (fun _ _ _ _ _ => pg_name (i := 8) scLaw.nd rfl (Or.inl rfl)) (fun _ _ _ _ _ => pts_one (pt_not (pt_val (pe_own dMr hr hMr (by rfl) (pa_cons (pe_ix ix_tup (pv 8) pe_int (fun _ _ => rfl)) (pa_cons (pe_op op_add_str pe_str (pe_ix ix_tup (pv 8) pe_int (fun _ _ => rfl))) pa_nil)))))) (fun _ _ _ _ _ => pv 8)) (pe_lst pa_nil) (nomark _)) (pss_one (ps_ret pe_bl)) pss_nil)
      (pss_cons (ps_if (pt_cmpR (op_neE hr.units) (pe_lc (own := [("pair", 8)]) (g := gName 8) (tt := (tNot (tB (tCall (spMr K mg) [] E0 (tCons (tOp (rIxT K) (tVar 8) (tC (.int 0))) (tCons (tOp rAddS (tC (.str "asked ")) (tOp (rIxT K) (tVar 8) (tC (.int 1)))) tNil)))))) (te := tVar 8) rfl scLaw.nd (pi_list (pv 6)) (blkOk_by (N := ["script", "k", "bag", "word", "man1", "told", "asked", "some", "pair", "e"]) (sc := defScope sLaw) (by decide +kernel)) (fun _ _ _ _ _ => pg_name (i := 8) scLaw.nd rfl (Or.inl rfl)) (fun _ _ _ _ _ => pts_one (pt_not (pt_val (pe_own dMr hr hMr (by rfl) (pa_cons (pe_ix ix_tup (pv 8) pe_int (fun _ _ => rfl)) (pa_cons (pe_op op_add_str pe_str (pe_ix ix_tup (pv 8) pe_int (fun _ _ => rfl))) pa_nil)))))) (fun _ _ _ _ _ => pv 8)) (pe_lst pa_nil) (nomark _)) (pss_one (ps_ret pe_bl)) pss_nil)
      (pss_cons (ps_set (i := 7) scLaw.nd rfl (by first | exact .inl rfl | exact .inr rfl) (pe_lst (pa_cons (pe_valK xNoPlace.ek hr hX (by rfl) (pk_cons (pv 4) pk_nil)) (pa_cons (pe_valK xNoLife.ek hr hX (by rfl) (pk_cons (pv 4) pk_nil)) (pa_cons (pe_valK xNoReading.ek hr hX (by rfl) (pk_cons (pv 4) pk_nil)) (pa_cons (pe_valK xHeld.ek hr hX (by rfl) (pk_cons (pv 4) pk_nil)) (pa_cons (pe_valK xTrimmed.ek hr hX (by rfl) (pk_cons (pv 4) pk_nil)) pa_nil)))))))
      (pss_cons (ps_set (i := 7) scLaw.nd rfl (by first | exact .inl rfl | exact .inr rfl) (pe_op op_cat (pv 7) (pe_lst (pa_cons (pe_valK xWaits.ek hr hX (by rfl) (pk_cons (pv 4) pk_nil)) (pa_cons (pe_valK xNotAsked.ek hr hX (by rfl) (pk_cons (pv 4) pk_nil)) (pa_cons (pe_valK xNoKey.ek hr hX (by rfl) (pk_cons (pv 4) pk_nil)) (pa_cons (pe_valK xNotSure.ek hr hX (by rfl) (pk_cons (pv 4) pk_nil)) pa_nil)))))))
      (pss_cons (ps_set (i := 7) scLaw.nd rfl (by first | exact .inl rfl | exact .inr rfl) (pe_op op_cat (pv 7) (pe_lst (pa_cons (pe_valK xNotOnWire.ek hr hX (by rfl) (pk_cons (pv 4) pk_nil)) (pa_cons (pe_valK xTooMany.ek hr hX (by rfl) (pk_cons (pv 4) pk_nil)) pa_nil)))))
      (pss_cons (ps_if (PW.pt (pw_or (pt_cmpR (op_neD hr.units) (pe_lc (own := [("e", 9)]) (g := gName 9) (tt := tYes) (te := tCall (spFdO K mg) [] E0 (tCons (tVar 9) tNil)) rfl scLaw.nd (pi_list (pv 7)) (blkOk_by (N := ["script", "k", "bag", "word", "man1", "told", "asked", "some", "pair", "e"]) (sc := defScope sLaw) (by decide +kernel)) (fun _ _ _ _ _ => pg_name (i := 9) scLaw.nd rfl (Or.inl rfl)) (fun _ _ _ _ _ => pts_nil) (fun _ _ _ _ _ => (pe_own dFd hr hFd (by rfl) (pa_cons (pv 9) pa_nil)))) (pe_op op_rep (pe_lst (pa_cons (pv 4) pa_nil)) pe_int) (nomark _)) (pw_or1 (pt_cmpR op_ne (pe_xo xNoTaker.xf xNoTaker.nf (pe_valK xNoTaker.ek hr hX (by rfl) (pk_cons (pv 3) pk_nil))) (pv 3) (nomark _))))) (pss_one (ps_ret pe_bl)) pss_nil)
      (pss_cons (ps_if (pt_cmpR (op_neD hr.units) (pe_lc (own := [("pair", 8)]) (g := gName 8) (tt := (tTest (tOp (rIn K false) (tOp (rIxT K) (tVar 8) (tC (.int 1))) (tLst (tCons (tC (.str "NoPlace")) (tCons (tC (.str "Held")) (tCons (tC (.str "NoKey")) tNil))))))) (te := tCall (spFdO K mg) [] E0 (tCons (tOp (rIxT K) (tVar 8) (tC (.int 0))) tNil)) rfl scLaw.nd (pi_list (pv 6)) (blkOk_by (N := ["script", "k", "bag", "word", "man1", "told", "asked", "some", "pair", "e"]) (sc := defScope sLaw) (by decide +kernel)) (fun _ _ _ _ _ => pg_name (i := 8) scLaw.nd rfl (Or.inl rfl)) (fun _ _ _ _ _ => pts_one (pt_cmpR op_in_seq (pe_ix ix_tup (pv 8) pe_int (fun _ _ => rfl)) (pe_lst (pa_cons pe_str (pa_cons pe_str (pa_cons pe_str pa_nil)))) (by rfl))) (fun _ _ _ _ _ => (pe_own dFd hr hFd (by rfl) (pa_cons (pe_ix ix_tup (pv 8) pe_int (fun _ _ => rfl)) pa_nil)))) (pe_op op_rep (pe_lst (pa_cons (pv 4) pa_nil)) pe_int) (nomark _)) (pss_one (ps_ret pe_bl)) pss_nil)
      (pss_one (ps_if (PW.pt (pw_or (pt_cmpR op_notN (pe_xo xNoText.xf xNoText.nf (pe_val0 xNoText.e0 hr hX (by rfl))) pe_non (nomark _)) (pw_or (pt_cmpR op_ne (pe_xo xNoText.xf xNoText.nf (pe_val xNoText.ed hr hX (by rfl) (pa_cons (pv 4) pa_nil))) (pv 4) (nomark _)) (pw_or1 (pt_cmpR op_ne (pe_xo xNoText.xf xNoText.nf (pe_valK xNoText.ek hr hX (by rfl) (pk_cons (pv 4) pk_nil))) (pv 4) (nomark _)))))) (pss_one (ps_ret pe_bl)) pss_nil)))))))))))))))))))))
      (pss_one (ps_ret pe_bl))), ?_⟩
    have hmn : 0 ≤ 1 + (if (10 : Int) < ((ns.map V.int).length : Int) then (10 : Int) else ((ns.map V.int).length : Int)) ∧ 1 + (if (10 : Int) < ((ns.map V.int).length : Int) then (10 : Int) else ((ns.map V.int).length : Int)) ≤ 100 := by
      split <;> omega
    refine s_seq (s_forR1 (n := 1 + (if (10 : Int) < ((ns.map V.int).length : Int) then (10 : Int) else ((ns.map V.int).length : Int))) (ea_cons (ev_op ev_c (ev_min2 (ev_len (ev_var rfl) hs) ev_c) rv_add) ea_nil) ⟨hmn.1, by omega⟩
      (fun i σ' H' => ∃ y1 y2 y3 y4 y5 y6 y7, σ' = [some (.ref a), y1, y2, y3, y4, y5, y6, y7, none, none] ∧ SqL K H' a (ns.map V.int)) (fun H1 x1 => ⟨_, _, _, _, _, _, _, rfl, ex_l x1 hs⟩) (fun i σ' H0 hi p => ?_) (fun σ' H' p => ?_))
    · obtain ⟨y1, y2, y3, y4, y5, y6, y7, rfl, hA⟩ := p
      have hi2 : i ≤ 1000 := by omega
      refine s_seq ⟨.ref a, rfl, .int (i : Int), rfl, a, ns, i, rfl, hA, hi2, fun b H1 nb x1 hB1 => g_name ?_⟩
      try dsimp only
      -- the word
      refine s_seq (t_asg (op_ofv (lst_ofa (cons_ofa ⟨.ref b, rfl, b, rfl, hB1, fun s H2 f2 ls => ?_⟩))))
      refine ⟨sz_of (by simp), fun L nL => ?_⟩
      have f3 := f2.trans (Fr.new f2.bag nL (o := .lst [V.str s, .str "", .str "A b"]))
      have nLb : L ≠ b := f2.bag.ne nL
      refine takeW_of (b := b) (m := 3) f3.bag (ea_cons (ev_var rfl) (ea_cons ev_c ea_nil)) (by decide) (by decide) fun r1 H3 f4 a0 a1 => ?_
      obtain ⟨word, hwd, lw⟩ : ∃ word : Str, atI [V.str s, .str "", .str "A b"] r1 = some (V.str word) ∧ word.length ≤ 8 := by
        have : r1 = 0 ∨ r1 = 1 ∨ r1 = 2 := by omega
        rcases this with rfl | rfl | rfl
        · exact ⟨s, rfl, ls⟩
        · exact ⟨"", rfl, by decide +kernel⟩
        · exact ⟨"A b", rfl, by decide +kernel⟩
      refine ⟨L, _, r1, .str word, rfl, rfl, sq_of (f4.at upd_same nLb), hwd, g_name ?_⟩
      have f := f3.trans f4
      clear hwd nLb
      try dsimp only
      -- the number
      refine s_seq (t_asg (op_ofv (takeW_of (b := b) (m := 10 ^ 39) f.bag (ea_cons (ev_var rfl) (ea_cons (ev_op ev_c ev_c (rv_pow ⟨by decide, by decide, by decide⟩)) ea_nil)) (by decide) (by decide +kernel) fun r2 G0 f5 b0 b1 => ⟨r2, 7, rfl, rfl, g_name ?_⟩)))
      have hi : (r2 - 7).natAbs.log2 < 1920 := big_log (by omega)
      have hw : word.length ≤ 1000 := by omega
      have fA := f.trans f5
      have hAG : SqL K G0 a (ns.map V.int) := ex_l (fun c o h => fA.at (x1 c o h) (ne_of_none h nb)) hA
      clear f f2 f3 f4 f5 fA nL nb hB1 x1 hA
      try dsimp only
      refine s_seq (t_asg (((epl_lst (eps_cons (evp_tup (nm := "NoTable") (evx_1 ev_c)) (eps_cons (evp_tup (nm := "NoChange") (evx_1 ev_c)) (eps_cons (evp_tup (nm := "NoStretch") (evx_1 ev_c)) eps_nil))) (Nat.le_of_ble_eq_true rfl)) : EvPL K _ [some (.ref a), some (.int (i : Int)), some (.ref b), some (.str word), some (.int (r2 - 7)), y5, y6, y7, none, none] G0 _) G0 (Ex.refl G0) _ fun L1 u1 G1 x1 h1 p1 => g_name ?_))
      try dsimp only
      refine s_seq (t_asg (((epl_cat (epl_var (i := 5) rfl h1 p1) (epl_lst (eps_cons (evp_tup (nm := "NoRows") (evx_1 ev_c)) (eps_cons (evp_tup (nm := "NoName") (evx_1 ev_c)) (eps_cons (evp_tup (nm := "NoText") evx_non) (eps_cons (evp_tup (nm := "NoRow") (evx_1 ev_c)) eps_nil)))) (Nat.le_of_ble_eq_true rfl)) (Nat.le_of_ble_eq_true rfl)) : EvPL K _ [some (.ref a), some (.int (i : Int)), some (.ref b), some (.str word), some (.int (r2 - 7)), some (.ref L1), y6, y7, none, none] G1 _) G1 (Ex.refl G1) _ fun L2 u2 G2 x2 h2 p2 => g_name ?_))
      try dsimp only
      refine s_seq (t_asg (((epl_cat (epl_var (i := 5) rfl h2 p2) (epl_lst (eps_cons (evp_tup (nm := "TooMany") (evx_int (ev_var rfl) hi)) (eps_cons (evp_tup (nm := "Twice") (evx_1 ev_c)) eps_nil)) (Nat.le_of_ble_eq_true rfl)) (Nat.le_of_ble_eq_true rfl)) : EvPL K _ [some (.ref a), some (.int (i : Int)), some (.ref b), some (.str word), some (.int (r2 - 7)), some (.ref L2), y6, y7, none, none] G2 _) G2 (Ex.refl G2) _ fun L3 u3 G3 x3 h3 p3 => g_name ?_))
      try dsimp only
      refine s_seq (t_asg (((epl_lst (eps_cons (evp_tup (nm := "NoPlace") (evx_int (ev_var rfl) hi)) (eps_cons (evp_tup (nm := "NoLife") (evx_int (ev_var rfl) hi)) (eps_cons (evp_tup (nm := "NoReading") (evx_int (ev_var rfl) hi)) eps_nil))) (Nat.le_of_ble_eq_true rfl)) : EvPL K _ [some (.ref a), some (.int (i : Int)), some (.ref b), some (.str word), some (.int (r2 - 7)), some (.ref L3), y6, y7, none, none] G3 _) G3 (Ex.refl G3) _ fun L4 u4 G4 x4 h4 p4 => g_name ?_))
      try dsimp only
      refine s_seq (t_asg (((epl_cat (epl_var (i := 6) rfl h4 p4) (epl_lst (eps_cons (evp_tup (nm := "Ended") (evx_1 ev_c)) (eps_cons (evp_tup (nm := "NotEnded") (evx_1 ev_c)) (eps_cons (evp_tup (nm := "Held") (evx_int (ev_var rfl) hi)) eps_nil))) (Nat.le_of_ble_eq_true rfl)) (Nat.le_of_ble_eq_true rfl)) : EvPL K _ [some (.ref a), some (.int (i : Int)), some (.ref b), some (.str word), some (.int (r2 - 7)), some (.ref L3), some (.ref L4), y7, none, none] G4 _) G4 (Ex.refl G4) _ fun L5 u5 G5 x5 h5 p5 => g_name ?_))
      try dsimp only
      refine s_seq (t_asg (((epl_cat (epl_var (i := 6) rfl h5 p5) (epl_lst (eps_cons (evp_tup (nm := "Trimmed") (evx_int (ev_var rfl) hi)) (eps_cons (evp_tup (nm := "Waits") (evx_int (ev_var rfl) hi)) (eps_cons (evp_tup (nm := "NotAsked") (evx_int (ev_var rfl) hi)) eps_nil))) (Nat.le_of_ble_eq_true rfl)) (Nat.le_of_ble_eq_true rfl)) : EvPL K _ [some (.ref a), some (.int (i : Int)), some (.ref b), some (.str word), some (.int (r2 - 7)), some (.ref L3), some (.ref L5), y7, none, none] G5 _) G5 (Ex.refl G5) _ fun L6 u6 G6 x6 h6 p6 => g_name ?_))
      try dsimp only
      refine s_seq (t_asg (((epl_cat (epl_var (i := 6) rfl h6 p6) (epl_lst (eps_cons (evp_tup (nm := "NoKey") (evx_int (ev_var rfl) hi)) (eps_cons (evp_tup (nm := "NotSure") (evx_int (ev_var rfl) hi)) (eps_cons (evp_tup (nm := "NoTaker") (evx_txt (ev_var rfl) hw)) eps_nil))) (Nat.le_of_ble_eq_true rfl)) (Nat.le_of_ble_eq_true rfl)) : EvPL K _ [some (.ref a), some (.int (i : Int)), some (.ref b), some (.str word), some (.int (r2 - 7)), some (.ref L3), some (.ref L6), y7, none, none] G6 _) G6 (Ex.refl G6) _ fun L7 u7 G7 x7 h7 p7 => g_name ?_))
      try dsimp only
      refine s_seq (t_asg (((epl_cat (epl_var (i := 6) rfl h7 p7) (epl_lst (eps_cons (evp_tup (nm := "NotOnWire") (evx_int (ev_var rfl) hi)) (eps_cons (evp_tup (nm := "NothingLeft") (evx_1 ev_c)) eps_nil)) (Nat.le_of_ble_eq_true rfl)) (Nat.le_of_ble_eq_true rfl)) : EvPL K _ [some (.ref a), some (.int (i : Int)), some (.ref b), some (.str word), some (.int (r2 - 7)), some (.ref L3), some (.ref L7), y7, none, none] G7 _) G7 (Ex.refl G7) _ fun L8 u8 G8 x8 h8 p8 => g_name ?_))
      try dsimp only
      have pT : PrAll K G8 u3 [⟨cNoTable, [], "NoTable"⟩, ⟨cNoChange, [], "NoChange"⟩, ⟨cNoStretch, [], "NoStretch"⟩, ⟨cNoRows, [], "NoRows"⟩, ⟨cNoName, [], "NoName"⟩, ⟨cNoText, [("line", .non)], "NoText"⟩, ⟨cNoRow, [], "NoRow"⟩, ⟨cTooMany, [("many", .int (r2 - 7))], "TooMany"⟩, ⟨cTwice, [], "Twice"⟩] := p3.ex ((((x4.trans x5).trans x6).trans x7).trans x8)
      have hT := ((((x4.trans x5).trans x6).trans x7).trans x8) _ _ h3
      have pA : PrAll K G8 u8 [⟨cNoPlace, [("at", .int (r2 - 7))], "NoPlace"⟩, ⟨cNoLife, [("who", .int (r2 - 7))], "NoLife"⟩, ⟨cNoReading, [("number", .int (r2 - 7))], "NoReading"⟩, ⟨cEnded, [], "Ended"⟩, ⟨cNotEnded, [], "NotEnded"⟩, ⟨cHeld, [("who", .int (r2 - 7))], "Held"⟩, ⟨cTrimmed, [("at", .int (r2 - 7))], "Trimmed"⟩, ⟨cWaits, [("number", .int (r2 - 7))], "Waits"⟩, ⟨cNotAsked, [("number", .int (r2 - 7))], "NotAsked"⟩, ⟨cNoKey, [("key", .int (r2 - 7))], "NoKey"⟩, ⟨cNotSure, [("key", .int (r2 - 7))], "NotSure"⟩, ⟨cNoTaker, [("name", .str word)], "NoTaker"⟩, ⟨cNotOnWire, [("number", .int (r2 - 7))], "NotOnWire"⟩, ⟨cNothingLeft, [], "NothingLeft"⟩] := p8
      have hAG8 := ex_l (((((((x1.trans x2).trans x3).trans x4).trans x5).trans x6).trans x7).trans x8) hAG
      clear p1 p2 p3 p4 p5 p6 p7 p8 h1 h2 h3 h4 h5 h6 h7 hAG x1 x2 x3 x4 x5 x6 x7 x8
      have gT : ∀ p ∈ ([⟨cNoTable, [], "NoTable"⟩, ⟨cNoChange, [], "NoChange"⟩, ⟨cNoStretch, [], "NoStretch"⟩, ⟨cNoRows, [], "NoRows"⟩, ⟨cNoName, [], "NoName"⟩, ⟨cNoText, [("line", .non)], "NoText"⟩, ⟨cNoRow, [], "NoRow"⟩, ⟨cTooMany, [("many", .int (r2 - 7))], "TooMany"⟩, ⟨cTwice, [], "Twice"⟩] : List Px), Good K mg "told " p := (List.forall_mem_cons.mpr ⟨⟨_, xNoTable.kd, xNoTable.kt, Nat.le_of_ble_eq_true rfl, by dsimp only; decide +kernel⟩, (List.forall_mem_cons.mpr ⟨⟨_, xNoChange.kd, xNoChange.kt, Nat.le_of_ble_eq_true rfl, by dsimp only; decide +kernel⟩, (List.forall_mem_cons.mpr ⟨⟨_, xNoStretch.kd, xNoStretch.kt, Nat.le_of_ble_eq_true rfl, by dsimp only; decide +kernel⟩, (List.forall_mem_cons.mpr ⟨⟨_, xNoRows.kd, xNoRows.kt, Nat.le_of_ble_eq_true rfl, by dsimp only; decide +kernel⟩, (List.forall_mem_cons.mpr ⟨⟨_, xNoName.kd, xNoName.kt, Nat.le_of_ble_eq_true rfl, by dsimp only; decide +kernel⟩, (List.forall_mem_cons.mpr ⟨⟨_, xNoText.kd, xNoText.kt, Nat.le_of_ble_eq_true rfl, by dsimp only; decide +kernel⟩, (List.forall_mem_cons.mpr ⟨⟨_, xNoRow.kd, xNoRow.kt, Nat.le_of_ble_eq_true rfl, by dsimp only; decide +kernel⟩, (List.forall_mem_cons.mpr ⟨⟨_, xTooMany.kd, xTooMany.kt, Nat.le_of_ble_eq_true rfl, by dsimp only; decide +kernel⟩, (List.forall_mem_cons.mpr ⟨⟨_, xTwice.kd, xTwice.kt, Nat.le_of_ble_eq_true rfl, by dsimp only; decide +kernel⟩, (fun _ m => (by cases m))⟩)⟩)⟩)⟩)⟩)⟩)⟩)⟩)⟩)
      have gA : ∀ p ∈ ([⟨cNoPlace, [("at", .int (r2 - 7))], "NoPlace"⟩, ⟨cNoLife, [("who", .int (r2 - 7))], "NoLife"⟩, ⟨cNoReading, [("number", .int (r2 - 7))], "NoReading"⟩, ⟨cEnded, [], "Ended"⟩, ⟨cNotEnded, [], "NotEnded"⟩, ⟨cHeld, [("who", .int (r2 - 7))], "Held"⟩, ⟨cTrimmed, [("at", .int (r2 - 7))], "Trimmed"⟩, ⟨cWaits, [("number", .int (r2 - 7))], "Waits"⟩, ⟨cNotAsked, [("number", .int (r2 - 7))], "NotAsked"⟩, ⟨cNoKey, [("key", .int (r2 - 7))], "NoKey"⟩, ⟨cNotSure, [("key", .int (r2 - 7))], "NotSure"⟩, ⟨cNoTaker, [("name", .str word)], "NoTaker"⟩, ⟨cNotOnWire, [("number", .int (r2 - 7))], "NotOnWire"⟩, ⟨cNothingLeft, [], "NothingLeft"⟩] : List Px), Good K mg "asked " p := (List.forall_mem_cons.mpr ⟨⟨_, xNoPlace.kd, xNoPlace.kt, Nat.le_of_ble_eq_true rfl, by dsimp only; decide +kernel⟩, (List.forall_mem_cons.mpr ⟨⟨_, xNoLife.kd, xNoLife.kt, Nat.le_of_ble_eq_true rfl, by dsimp only; decide +kernel⟩, (List.forall_mem_cons.mpr ⟨⟨_, xNoReading.kd, xNoReading.kt, Nat.le_of_ble_eq_true rfl, by dsimp only; decide +kernel⟩, (List.forall_mem_cons.mpr ⟨⟨_, xEnded.kd, xEnded.kt, Nat.le_of_ble_eq_true rfl, by dsimp only; decide +kernel⟩, (List.forall_mem_cons.mpr ⟨⟨_, xNotEnded.kd, xNotEnded.kt, Nat.le_of_ble_eq_true rfl, by dsimp only; decide +kernel⟩, (List.forall_mem_cons.mpr ⟨⟨_, xHeld.kd, xHeld.kt, Nat.le_of_ble_eq_true rfl, by dsimp only; decide +kernel⟩, (List.forall_mem_cons.mpr ⟨⟨_, xTrimmed.kd, xTrimmed.kt, Nat.le_of_ble_eq_true rfl, by dsimp only; decide +kernel⟩, (List.forall_mem_cons.mpr ⟨⟨_, xWaits.kd, xWaits.kt, Nat.le_of_ble_eq_true rfl, by dsimp only; decide +kernel⟩, (List.forall_mem_cons.mpr ⟨⟨_, xNotAsked.kd, xNotAsked.kt, Nat.le_of_ble_eq_true rfl, by dsimp only; decide +kernel⟩, (List.forall_mem_cons.mpr ⟨⟨_, xNoKey.kd, xNoKey.kt, Nat.le_of_ble_eq_true rfl, by dsimp only; decide +kernel⟩, (List.forall_mem_cons.mpr ⟨⟨_, xNotSure.kd, xNotSure.kt, Nat.le_of_ble_eq_true rfl, by dsimp only; decide +kernel⟩, (List.forall_mem_cons.mpr ⟨⟨_, xNoTaker.kd, xNoTaker.kt, Nat.le_of_ble_eq_true rfl, by dsimp only; decide +kernel⟩, (List.forall_mem_cons.mpr ⟨⟨_, xNotOnWire.kd, xNotOnWire.kt, Nat.le_of_ble_eq_true rfl, by dsimp only; decide +kernel⟩, (List.forall_mem_cons.mpr ⟨⟨_, xNothingLeft.kd, xNothingLeft.kt, Nat.le_of_ble_eq_true rfl, by dsimp only; decide +kernel⟩, (fun _ m => (by cases m))⟩)⟩)⟩)⟩)⟩)⟩)⟩)⟩)⟩)⟩)⟩)⟩)⟩)⟩)
      refine s_seq (if_op (lc_vals (K := K) (fun _ => false) (fun _ => .non) (by rw [pT.len]; exact Nat.le_of_ble_eq_true rfl) rfl hT (fun x => rfl) (fun n u J hu xJ => ?_) (fun n u J hu z => (by cases z)) fun D1 G9 nD1 xD1 hD1 => none_left hD1 fun G10 x10 => ⟨false, rfl, ?_⟩))
      · obtain ⟨p, hp, pa⟩ := pT.at hu
        exact et_mr (gT p (List.mem_of_getElem? hp)) (pa.ex xJ) rfl
      rw [if_neg Bool.false_ne_true]
      refine s_next ?_
      try dsimp only
      have xb := xD1.trans x10
      refine s_seq (if_op (lc_vals (K := K) (fun _ => false) (fun _ => .non) (by rw [pA.len]; exact Nat.le_of_ble_eq_true rfl) rfl (xb _ _ h8) (fun x => rfl) (fun n u J hu xJ => ?_) (fun n u J hu z => (by cases z)) fun D2 G9' nD2 xD2 hD2 => none_left hD2 fun Ga xa => ⟨false, rfl, ?_⟩))
      · obtain ⟨p, hp, pa⟩ := pA.at hu
        exact et_mr (gA p (List.mem_of_getElem? hp)) (pa.ex (xb.trans xJ)) rfl
      rw [if_neg Bool.false_ne_true]
      refine s_next ?_
      try dsimp only
      have xc := (xb.trans xD2).trans xa
      -- by names
      refine s_seq (t_asg (((exl_lst (exs_cons (nm := "") (evx_k (f := "at") (ev_var rfl) hi) (exs_cons (nm := "") (evx_k (f := "who") (ev_var rfl) hi) (exs_cons (nm := "") (evx_k (f := "number") (ev_var rfl) hi) (exs_cons (nm := "") (evx_k (f := "who") (ev_var rfl) hi) (exs_cons (nm := "") (evx_k (f := "at") (ev_var rfl) hi) exs_nil))))) (Nat.le_of_ble_eq_true rfl)) : EvXL _ [some (.ref a), some (.int (i : Int)), some (.ref b), some (.str word), some (.int (r2 - 7)), some (.ref L3), some (.ref L8), y7, none, none] Ga _) Ga (Ex.refl Ga) _ fun L11 u11 G11 x11 h11 p11 => g_name ?_))
      try dsimp only
      refine s_seq (t_asg (((exl_cat (exl_var (i := 7) rfl h11 p11) (exl_lst (exs_cons (nm := "") (evx_k (f := "number") (ev_var rfl) hi) (exs_cons (nm := "") (evx_k (f := "number") (ev_var rfl) hi) (exs_cons (nm := "") (evx_k (f := "key") (ev_var rfl) hi) (exs_cons (nm := "") (evx_k (f := "key") (ev_var rfl) hi) exs_nil)))) (Nat.le_of_ble_eq_true rfl)) (Nat.le_of_ble_eq_true rfl)) : EvXL _ [some (.ref a), some (.int (i : Int)), some (.ref b), some (.str word), some (.int (r2 - 7)), some (.ref L3), some (.ref L8), some (.ref L11), none, none] G11 _) G11 (Ex.refl G11) _ fun L12 u12 G12 x12 h12 p12 => g_name ?_))
      try dsimp only
      refine s_seq (t_asg (((exl_cat (exl_var (i := 7) rfl h12 p12) (exl_lst (exs_cons (nm := "") (evx_k (f := "number") (ev_var rfl) hi) (exs_cons (nm := "") (evx_k (f := "many") (ev_var rfl) hi) exs_nil)) (Nat.le_of_ble_eq_true rfl)) (Nat.le_of_ble_eq_true rfl)) : EvXL _ [some (.ref a), some (.int (i : Int)), some (.ref b), some (.str word), some (.int (r2 - 7)), some (.ref L3), some (.ref L8), some (.ref L12), none, none] G12 _) G12 (Ex.refl G12) _ fun L13 u13 G13 x13 h13 p13 => g_name ?_))
      try dsimp only
      have pS : XAll G13 u13 [⟨cNoPlace, [("at", .int (r2 - 7))], ""⟩, ⟨cNoLife, [("who", .int (r2 - 7))], ""⟩, ⟨cNoReading, [("number", .int (r2 - 7))], ""⟩, ⟨cHeld, [("who", .int (r2 - 7))], ""⟩, ⟨cTrimmed, [("at", .int (r2 - 7))], ""⟩, ⟨cWaits, [("number", .int (r2 - 7))], ""⟩, ⟨cNotAsked, [("number", .int (r2 - 7))], ""⟩, ⟨cNoKey, [("key", .int (r2 - 7))], ""⟩, ⟨cNotSure, [("key", .int (r2 - 7))], ""⟩, ⟨cNotOnWire, [("number", .int (r2 - 7))], ""⟩, ⟨cTooMany, [("many", .int (r2 - 7))], ""⟩] := p13
      have xd := (x11.trans x12).trans x13
      have gS : ∀ p ∈ ([⟨cNoPlace, [("at", .int (r2 - 7))], ""⟩, ⟨cNoLife, [("who", .int (r2 - 7))], ""⟩, ⟨cNoReading, [("number", .int (r2 - 7))], ""⟩, ⟨cHeld, [("who", .int (r2 - 7))], ""⟩, ⟨cTrimmed, [("at", .int (r2 - 7))], ""⟩, ⟨cWaits, [("number", .int (r2 - 7))], ""⟩, ⟨cNotAsked, [("number", .int (r2 - 7))], ""⟩, ⟨cNoKey, [("key", .int (r2 - 7))], ""⟩, ⟨cNotSure, [("key", .int (r2 - 7))], ""⟩, ⟨cNotOnWire, [("number", .int (r2 - 7))], ""⟩, ⟨cTooMany, [("many", .int (r2 - 7))], ""⟩] : List Px), Fld K mg (r2 - 7) p := (List.forall_mem_cons.mpr ⟨⟨_, "at", xNoPlace.kd, xNoPlace.xf, by decide +kernel, xNoPlace.nf, rfl⟩, (List.forall_mem_cons.mpr ⟨⟨_, "who", xNoLife.kd, xNoLife.xf, by decide +kernel, xNoLife.nf, rfl⟩, (List.forall_mem_cons.mpr ⟨⟨_, "number", xNoReading.kd, xNoReading.xf, by decide +kernel, xNoReading.nf, rfl⟩, (List.forall_mem_cons.mpr ⟨⟨_, "who", xHeld.kd, xHeld.xf, by decide +kernel, xHeld.nf, rfl⟩, (List.forall_mem_cons.mpr ⟨⟨_, "at", xTrimmed.kd, xTrimmed.xf, by decide +kernel, xTrimmed.nf, rfl⟩, (List.forall_mem_cons.mpr ⟨⟨_, "number", xWaits.kd, xWaits.xf, by decide +kernel, xWaits.nf, rfl⟩, (List.forall_mem_cons.mpr ⟨⟨_, "number", xNotAsked.kd, xNotAsked.xf, by decide +kernel, xNotAsked.nf, rfl⟩, (List.forall_mem_cons.mpr ⟨⟨_, "key", xNoKey.kd, xNoKey.xf, by decide +kernel, xNoKey.nf, rfl⟩, (List.forall_mem_cons.mpr ⟨⟨_, "key", xNotSure.kd, xNotSure.xf, by decide +kernel, xNotSure.nf, rfl⟩, (List.forall_mem_cons.mpr ⟨⟨_, "number", xNotOnWire.kd, xNotOnWire.xf, by decide +kernel, xNotOnWire.nf, rfl⟩, (List.forall_mem_cons.mpr ⟨⟨_, "many", xTooMany.kd, xTooMany.xf, by decide +kernel, xTooMany.nf, rfl⟩, (fun _ m => (by cases m))⟩)⟩)⟩)⟩)⟩)⟩)⟩)⟩)⟩)⟩)⟩)
      clear p11 p12 p13 h11 h12
      have lS : u13.length = 11 := pS.len
      refine s_seq (or_ops (lc_vals (K := K) (fun _ => true) (fun _ => .int (r2 - 7)) (by rw [lS]; decide) rfl h13 (fun x => rfl) (fun n u J hu xJ => et_yes) (fun n u J hu z xJ => ?_) fun D3 Gb nD3 xD3 hD3 => reps_eq (n := 11) (by decide) rfl (by rw [lS, all_rep] at hD3; exact hD3) fun Gc x14 => ⟨false, rfl, ?_⟩))
      · obtain ⟨p, hp, a', rfl, pa⟩ := pS.at hu
        exact ev_fd (gS p (List.mem_of_getElem? hp)) (pa.ex xJ) (ev_var rfl)
      rw [if_neg Bool.false_ne_true]
      refine if_op (xo_of (evx_kt (f := "name") (ev_var rfl) hw) rfl fun Gd x15 => ⟨.str word, rfl, rfl, _, rfl, ?_⟩)
      rw [decide_eq_true rfl, if_neg (by decide)]
      refine s_next ?_
      try dsimp only
      have xe := xd.trans ((xD3.trans x14).trans x15)
      -- of some that are kept
      have lA : u8.length = 14 := pA.len
      refine s_seq (if_op (lc_vals (K := K) (fun n => decide (n = 0 ∨ n = 5 ∨ n = 9)) (fun _ => .int (r2 - 7)) (by rw [lA]; decide) rfl ((xc.trans xe) _ _ h8) (fun x => rfl) (fun n u J hu xJ => ?_) (fun n u J hu z xJ => ?_) fun D4 Ge nD4 xD4 hD4 => reps_eq (n := 3) (by decide) rfl (by rw [lA, some_rep] at hD4; exact hD4) fun Gf x16 => ⟨false, rfl, ?_⟩))
      · obtain ⟨p, hp, pa⟩ := pA.at hu
        have hn : nmA[n]? = some p.nm := by
          have := congrArg (Option.map Px.nm) hp
          rw [← List.getElem?_map] at this
          exact this
        rw [← nmA_tab hn]
        exact et_nm (pa.ex ((xc.trans xe).trans xJ)) rfl
      · obtain ⟨p, hp, t, a', rfl, ht, pa⟩ := pA.at hu
        have gp : Fld K mg (r2 - 7) p := by
          rcases of_decide_eq_true z with rfl | rfl | rfl
          · cases hp
            exact ⟨_, "at", xNoPlace.kd, xNoPlace.xf, by decide +kernel, xNoPlace.nf, rfl⟩
          · cases hp
            exact ⟨_, "who", xHeld.kd, xHeld.xf, by decide +kernel, xHeld.nf, rfl⟩
          · cases hp
            exact ⟨_, "key", xNoKey.kd, xNoKey.xf, by decide +kernel, xNoKey.nf, rfl⟩
        have x9 := (xc.trans xe).trans xJ
        exact ev_fd gp (pa.ex x9) (ev_ix0 (ev_var rfl) (ex_t x9 ht))
      rw [if_neg Bool.false_ne_true]
      refine s_next ?_
      try dsimp only
      refine nt_ok rfl hi fun Gg x17 => ?_
      exact ⟨_, _, _, _, _, _, _, rfl, ex_l (((xc.trans xe).trans (xD4.trans x16)).trans x17) hAG8⟩
    · obtain ⟨y1, y2, y3, y4, y5, y6, y7, rfl, hA⟩ := p
      try dsimp only
      exact q H'
end
end K49
/-! an exception whose own __init__ has one parameter that may be left out (None): what the top leaves of it -/
namespace Tc
open PySem PySem.Spec PyProof.Rows L2 He
def nonT (K : PySem.W.Frag) (T : Addr) : Bool := match K.lookup T with
  | some ⟨_, _, .seq its _, _⟩ => (match its.toList with
    | [.none] => true
    | _ => false)
  | _ => false
theorem nonT_ok {K : PySem.W.Frag} {T : Addr} (h : nonT K T = true) : ∃ o its n, K.lookup T = some o ∧ o.data = .seq its n ∧ its.toList = [.none] := by
  unfold nonT at h
  split at h
  · rename_i a b its n c e
    split at h
    · rename_i e2
      exact ⟨_, its, n, e, rfl, e2⟩
    · cases h
  · cases h
def xcB3 (K : PySem.W.Frag) (file x fld : Str) (fl : List Bool) : Bool :=
  eqO (PySem.W.nsIn K mainGlobals x) (some (some (.ref (ga K x)))) && (clsObjB K (ga K x) && (oexB K (ga K x) && (excB K (ga K x) fl && (eqO (PySem.W.findIn K (.ref (ga K x)) "__init__") (some (some (.ref (ma K (ga K x) "__init__")))) &&
  (decide (PySem.W.typeIn K (.ref (ma K (ga K x) "__init__")) = some (.type "function")) && (eqO (PySem.W.findIn K (.ref (ga K x)) fld) (some none) && (match K.lookup (ma K (ga K x) "__init__") with
    | some ⟨_, _, .func fd, _⟩ => (match fd.defaults, fd.code, fd.closure with
      | .ref T, .ref A, [(_, W)] => nonT K T && (PySem.W.codeIn K (.ref A) fd.qualname && (supB K file (ga K x) A && (match K.lookup W with
        | some ⟨_, _, .cell (some (.ref C')), _⟩ => decide (C' = ga K x)
        | _ => false)))
      | _, _, _ => false)
    | _ => false)))))))
structure XcOk3 (P : Program) (K : PySem.W.Frag) (mg : Str → Option Value) (d : XcD) (fld : Str) (fl : List Bool) (C I W A : Addr) : Prop where
  T : OexC K C
  E : ExC K mg d.cls C fl
  Z : SupF P K mg C A
  iC : PySem.W.findIn K (.ref C) "__init__" = some (some (.ref I))
  tI : PySem.W.typeIn K (.ref I) = some (.type "function")
  F : ∃ oc od sl tp kv dc pm an ct, K.lookup I = some ⟨oc, od, .func (PySem.W.fnX "__init__" d.qual d.params d.body d.scope [("__class__", W)] (.ref tp) kv dc pm an (.ref A) ct), sl⟩ ∧ nonT K tp = true
  cd : PySem.W.codeIn K (.ref A) d.qual = true
  cW : ∃ ol : Obj, K.lookup W = some ol ∧ ol.data = .cell (some (.ref C))
  no : PySem.W.findIn K (.ref C) fld = some none
  mgC : mg d.cls = some (.ref C)
theorem xc_ok3 {P : Program} {K : PySem.W.Frag} {h : Heap} {mg : Str → Option Value} {d : XcD} {fld : Str} {fl : List Bool} (X : K.In h) (G : h.Ns mainGlobals mg) (top : (P.main.scope.names.lookup ("super" : Str)).isSome = false) (e : xcW K d.cls = d.val) (c : xcB3 K P.main.file d.cls fld fl = true) : ∃ I W A, XcOk3 P K mg d fld fl (ga K d.cls) I W A := by
  unfold xcB3 at c
  obtain ⟨c1, c⟩ := ba c
  obtain ⟨c2, c⟩ := ba c
  obtain ⟨c3, c⟩ := ba c
  obtain ⟨c4, c⟩ := ba c
  obtain ⟨c5, c⟩ := ba c
  obtain ⟨c6, c⟩ := ba c
  obtain ⟨c7, c8⟩ := ba c
  have a1 := eqO_ok c1
  obtain ⟨nm, q, N, bs, bm, sn, sub, ab, col, dd, k0, k1, k2, k3, k5, xL, xR⟩ := clsObjB_ok c2
  unfold xcW at e
  cases hl : K.lookup (ma K (ga K d.cls) "__init__") with
  | none =>
    rw [hl] at c8
    cases c8
  | some o =>
    obtain ⟨oc, od, dt, osl⟩ := o
    rw [hl] at c8 e
    cases dt with
    | func fd =>
      obtain ⟨n1, n2, n3, n4, n5, n6, n7, n8, n9, n10, n11, n12, n13, n14, n15⟩ := fd
      have e2 : (some (n1, n2, n3, n4, n5, n6, n7.map (·.1), n15) : FnC) = some (("__init__" : Str), d.qual, d.params, FuncBody.stmts d.body, d.scope, mainGlobals, [("__class__" : Str)], builtinsNs) := e
      simp only [Option.some.injEq, Prod.mk.injEq] at e2
      obtain ⟨h1, h2, h3, h4, h5, h6, h7, h8⟩ := e2
      subst h1 h2 h3 h4 h5 h6 h8
      dsimp only at c8
      split at c8
      · rename_i T A s W
        have h7' : s = "__class__" := (List.cons.inj h7).1
        subst h7'
        obtain ⟨d0, c8'⟩ := ba c8
        obtain ⟨d1, c9⟩ := ba c8'
        obtain ⟨d2, d3⟩ := ba c9
        refine ⟨_, W, A, oexB_ok xL xR c3, excB_ok X G a1 c4, supB_ok X G top d2, eqO_ok c5, of_decide_eq_true c6, ⟨oc, od, osl, T, _, _, _, _, _, hl, d0⟩, d1, ?_, eqO_ok c7, PySem.W.mg_of X G a1⟩
        split at d3
        · rename_i w0 w1 C' w2 hw
          rw [of_decide_eq_true d3] at hw
          exact ⟨_, hw, rfl⟩
        · cases d3
      · cases c8
    | _ => cases c8
/-- one parameter told by its name -/
theorem kbn1 {K : PySem.W.Frag} {fd : FuncData} {f0 : Str} (h : ∀ u w : Value, bindArgs fd ⟨[u], [(f0, w)]⟩ = pure ([("self", u), (f0, w)] : List (Str × Value))) : KBn K fd ["self", f0] 1 [f0] (fun us ws => us ++ ws) (fun vs zs => vs ++ zs) :=
  ⟨fun s us ws _ l1 l2 => match us, ws, l1, l2 with | [u], [w], _, _ => .of_eq (h u w), fun r1 r2 => r1.append r2⟩
section
variable {K : PySem.W.Frag} {T : Addr} {fd : FuncData} {f0 : Str}
/-- the default: looked up each time -/
theorem bt_dfl {s : Shared} {args : Args} {bs : List (Str × Value)} {k : Option (Array Value) → Sem (List (Str × Value))} (X : K.In s.heap) (hT : nonT K T = true) (e : bindArgs fd args = seqItems? (.ref T) >>= k) (e2 : k (some #[.none]) = pure bs) : BindsTo s fd args bs := by
  obtain ⟨o, its, n, lT, oT, ei⟩ := nonT_ok hT
  refine BindsTo.of_looks fun M => ?_
  rw [e]
  refine looks_items X lT oT (.of_pure ?_)
  rw [show its = #[.none] from by rw [← Array.toList_inj]; exact ei]
  exact e2
end
end Tc
namespace K49
open PySem L2 L2H PyProof.Rows Tc Evl NdefX
theorem text_fitsS {x s : Str} (hx : x.length ≤ 1000) (h : s.length ≤ 1000) : (x ++ s).length ≤ sizeLine := by
  rw [Str.length_append]
  exact sz_of (by omega)
abbrev cNoText : Stmt := topS 9
abbrev mxNoText : Stmt := inClass cNoText 0
theorem scxNoText : NScope ["self", "line", "__class__"] ["self", "line"] ["__class__"] (defScope mxNoText) := nscope_by (by decide +kernel)
section
variable {P : Program} {w : World} {K : PySem.W.Frag} {mg : Str → Option Value} {base : Heap}
theorem ok_xNoText {f C cc cda : Addr} {k : Nat} {dV kV doc pm ct oc : Value} {an od : Option Addr} {osl : Array (Option Value)} (lk : K.lookup f = some ⟨oc, od, .func (PySem.W.fnX "__init__" "NoText.__init__" (defArgs mxNoText) (defBody mxNoText) (defScope mxNoText) [("__class__", cc)] dV kV doc pm an (.ref cda) ct), osl⟩)
    (hcd : PySem.W.codeIn K (.ref cda) "NoText.__init__" = true) (T : OexC K C) (hc : ∃ ol : Obj, K.lookup cc = some ol ∧ ol.data = .cell (some (.ref C))) (hno : PySem.W.findIn K (.ref C) "line" = some none) (Z : SupF P K mg C cda) :
    FnOk P w K mg base CX0 (k + 1) f (PySem.W.fnX "__init__" "NoText.__init__" (defArgs mxNoText) (defBody mxNoText) (defScope mxNoText) [("__class__", cc)] dV kV doc pm an (.ref cda) ct) ["self", "line"] (spXO C "line") := by
  refine fn_super (N := ["self", "line", "__class__"]) (me := "self") lk hcd scxNoText (fun vs H Q E h => ?_) T hc rfl rfl (fun _ => ⟨_, rfl⟩) (fun _ => rfl) (fun _ => rfl) (fun _ => rfl) (fun A outer s H E => ?_) (fun A outer s H vs Q E hr h => ?_)
  · obtain ⟨a, i, rfl, _⟩ := h
    rfl
  · exact ⟨rfl, rfl, rfl, rfl, ⟨_, _, _, lk, rfl, rfl, rfl⟩, Z.cd, Z.top, Z.mg, rfl, hc, rfl, Z.cl, Z.mr, Z.op, Z.su, Z.ve⟩
  · obtain ⟨a, v, rfl, ha, hv, q⟩ := h
    refine ⟨a, _, _, rfl, ha, pa_cons (pe_joined (.cons pe_str (.cons (pe_fmtO (pv 1)) .nil))) pa_nil, pss_one (ps_ost (pv 0) (pv 1)), fun u hu => ?_⟩
    have ua : a ≠ u := ne_of_none ha hu
    refine ⟨_, rfl, by decide, v, rfl, ?_⟩
    rcases hv with rfl | ⟨i, rfl, hi⟩
    · refine .inl ⟨rfl, _, rfl, by decide +kernel, ?_⟩
      refine ⟨rfl, by simp, .non, rfl, .ref a, rfl, a, C, rfl, T, hno, .inl ⟨(upd_ne ua).trans ha, fun d hd da => ?_⟩⟩
      have du : d ≠ u := fun z => by
        rw [z, upd_same] at hd
        cases hd
      rw [upd_ne du] at hd
      exact q d _ hd da upd_same ((upd_ne da).trans upd_same) fun b o ba hb => (upd_ne ba).trans ((upd_ne (ne_of_none hb hd)).trans ((upd_ne (ne_of_none hb hu)).trans hb))
    · refine .inr ⟨i, rfl, hi, _, rfl, text_fits (by decide) hi, ?_⟩
      refine ⟨rfl, by simp, .int i, rfl, .ref a, rfl, a, C, rfl, T, hno, .inl ⟨(upd_ne ua).trans ha, fun d hd da => ?_⟩⟩
      have du : d ≠ u := fun z => by
        rw [z, upd_same] at hd
        cases hd
      rw [upd_ne du] at hd
      exact q d _ hd da upd_same ((upd_ne da).trans upd_same) fun b o ba hb => (upd_ne ba).trans ((upd_ne (ne_of_none hb hd)).trans ((upd_ne (ne_of_none hb hu)).trans hb))
end
abbrev cTooMany : Stmt := topS 11
abbrev mxTooMany : Stmt := inClass cTooMany 0
theorem scxTooMany : NScope ["self", "many", "__class__"] ["self", "many"] ["__class__"] (defScope mxTooMany) := nscope_by (by decide +kernel)
section
variable {P : Program} {w : World} {K : PySem.W.Frag} {mg : Str → Option Value} {base : Heap}
theorem ok_xTooMany {f C cc cda : Addr} {k : Nat} {dV kV doc pm ct oc : Value} {an od : Option Addr} {osl : Array (Option Value)} (lk : K.lookup f = some ⟨oc, od, .func (PySem.W.fnX "__init__" "TooMany.__init__" (defArgs mxTooMany) (defBody mxTooMany) (defScope mxTooMany) [("__class__", cc)] dV kV doc pm an (.ref cda) ct), osl⟩)
    (hcd : PySem.W.codeIn K (.ref cda) "TooMany.__init__" = true) (T : OexC K C) (hc : ∃ ol : Obj, K.lookup cc = some ol ∧ ol.data = .cell (some (.ref C))) (hno : PySem.W.findIn K (.ref C) "many" = some none) (Z : SupF P K mg C cda) :
    FnOk P w K mg base CX0 (k + 1) f (PySem.W.fnX "__init__" "TooMany.__init__" (defArgs mxTooMany) (defBody mxTooMany) (defScope mxTooMany) [("__class__", cc)] dV kV doc pm an (.ref cda) ct) ["self", "many"] (spX1 C "many") := by
  refine fn_super (N := ["self", "many", "__class__"]) (me := "self") lk hcd scxTooMany (fun vs H Q E h => ?_) T hc rfl rfl (fun _ => ⟨_, rfl⟩) (fun _ => rfl) (fun _ => rfl) (fun _ => rfl) (fun A outer s H E => ?_) (fun A outer s H vs Q E hr h => ?_)
  · obtain ⟨a, i, rfl, _⟩ := h
    rfl
  · exact ⟨rfl, rfl, rfl, rfl, ⟨_, _, _, lk, rfl, rfl, rfl⟩, Z.cd, Z.top, Z.mg, rfl, hc, rfl, Z.cl, Z.mr, Z.op, Z.su, Z.ve⟩
  · obtain ⟨a, i, rfl, ha, hi, q⟩ := h
    refine ⟨a, _, _, rfl, ha, pa_cons (pe_joined (.cons pe_str (.cons (pe_fmt (pv 1)) .nil))) pa_nil, pss_one (ps_ost (pv 0) (pv 1)), fun u hu => ?_⟩
    have ua : a ≠ u := ne_of_none ha hu
    refine ⟨_, rfl, by decide, .int i, rfl, .inr ⟨i, rfl, hi, _, rfl, text_fits (by decide) hi, ?_⟩⟩
    refine ⟨rfl, by simp, .int i, rfl, .ref a, rfl, a, C, rfl, T, hno, .inl ⟨(upd_ne ua).trans ha, fun d hd da => ?_⟩⟩
    have du : d ≠ u := fun z => by
      rw [z, upd_same] at hd
      cases hd
    rw [upd_ne du] at hd
    exact q d _ hd da upd_same ((upd_ne da).trans upd_same) fun b o ba hb => (upd_ne ba).trans ((upd_ne (ne_of_none hb hd)).trans ((upd_ne (ne_of_none hb hu)).trans hb))
end
abbrev cNoPlace : Stmt := topS 13
abbrev mxNoPlace : Stmt := inClass cNoPlace 0
theorem scxNoPlace : NScope ["self", "at", "__class__"] ["self", "at"] ["__class__"] (defScope mxNoPlace) := nscope_by (by decide +kernel)
section
variable {P : Program} {w : World} {K : PySem.W.Frag} {mg : Str → Option Value} {base : Heap}
theorem ok_xNoPlace {f C cc cda : Addr} {k : Nat} {dV kV doc pm ct oc : Value} {an od : Option Addr} {osl : Array (Option Value)} (lk : K.lookup f = some ⟨oc, od, .func (PySem.W.fnX "__init__" "NoPlace.__init__" (defArgs mxNoPlace) (defBody mxNoPlace) (defScope mxNoPlace) [("__class__", cc)] dV kV doc pm an (.ref cda) ct), osl⟩)
    (hcd : PySem.W.codeIn K (.ref cda) "NoPlace.__init__" = true) (T : OexC K C) (hc : ∃ ol : Obj, K.lookup cc = some ol ∧ ol.data = .cell (some (.ref C))) (hno : PySem.W.findIn K (.ref C) "at" = some none) (Z : SupF P K mg C cda) :
    FnOk P w K mg base CX0 (k + 1) f (PySem.W.fnX "__init__" "NoPlace.__init__" (defArgs mxNoPlace) (defBody mxNoPlace) (defScope mxNoPlace) [("__class__", cc)] dV kV doc pm an (.ref cda) ct) ["self", "at"] (spX1 C "at") := by
  refine fn_super (N := ["self", "at", "__class__"]) (me := "self") lk hcd scxNoPlace (fun vs H Q E h => ?_) T hc rfl rfl (fun _ => ⟨_, rfl⟩) (fun _ => rfl) (fun _ => rfl) (fun _ => rfl) (fun A outer s H E => ?_) (fun A outer s H vs Q E hr h => ?_)
  · obtain ⟨a, i, rfl, _⟩ := h
    rfl
  · exact ⟨rfl, rfl, rfl, rfl, ⟨_, _, _, lk, rfl, rfl, rfl⟩, Z.cd, Z.top, Z.mg, rfl, hc, rfl, Z.cl, Z.mr, Z.op, Z.su, Z.ve⟩
  · obtain ⟨a, i, rfl, ha, hi, q⟩ := h
    refine ⟨a, _, _, rfl, ha, pa_cons (pe_joined (.cons pe_str (.cons (pe_fmt (pv 1)) .nil))) pa_nil, pss_one (ps_ost (pv 0) (pv 1)), fun u hu => ?_⟩
    have ua : a ≠ u := ne_of_none ha hu
    refine ⟨_, rfl, by decide, .int i, rfl, .inr ⟨i, rfl, hi, _, rfl, text_fits (by decide) hi, ?_⟩⟩
    refine ⟨rfl, by simp, .int i, rfl, .ref a, rfl, a, C, rfl, T, hno, .inl ⟨(upd_ne ua).trans ha, fun d hd da => ?_⟩⟩
    have du : d ≠ u := fun z => by
      rw [z, upd_same] at hd
      cases hd
    rw [upd_ne du] at hd
    exact q d _ hd da upd_same ((upd_ne da).trans upd_same) fun b o ba hb => (upd_ne ba).trans ((upd_ne (ne_of_none hb hd)).trans ((upd_ne (ne_of_none hb hu)).trans hb))
end
abbrev cNoLife : Stmt := topS 14
abbrev mxNoLife : Stmt := inClass cNoLife 0
theorem scxNoLife : NScope ["self", "who", "__class__"] ["self", "who"] ["__class__"] (defScope mxNoLife) := nscope_by (by decide +kernel)
section
variable {P : Program} {w : World} {K : PySem.W.Frag} {mg : Str → Option Value} {base : Heap}
theorem ok_xNoLife {f C cc cda : Addr} {k : Nat} {dV kV doc pm ct oc : Value} {an od : Option Addr} {osl : Array (Option Value)} (lk : K.lookup f = some ⟨oc, od, .func (PySem.W.fnX "__init__" "NoLife.__init__" (defArgs mxNoLife) (defBody mxNoLife) (defScope mxNoLife) [("__class__", cc)] dV kV doc pm an (.ref cda) ct), osl⟩)
    (hcd : PySem.W.codeIn K (.ref cda) "NoLife.__init__" = true) (T : OexC K C) (hc : ∃ ol : Obj, K.lookup cc = some ol ∧ ol.data = .cell (some (.ref C))) (hno : PySem.W.findIn K (.ref C) "who" = some none) (Z : SupF P K mg C cda) :
    FnOk P w K mg base CX0 (k + 1) f (PySem.W.fnX "__init__" "NoLife.__init__" (defArgs mxNoLife) (defBody mxNoLife) (defScope mxNoLife) [("__class__", cc)] dV kV doc pm an (.ref cda) ct) ["self", "who"] (spX1 C "who") := by
  refine fn_super (N := ["self", "who", "__class__"]) (me := "self") lk hcd scxNoLife (fun vs H Q E h => ?_) T hc rfl rfl (fun _ => ⟨_, rfl⟩) (fun _ => rfl) (fun _ => rfl) (fun _ => rfl) (fun A outer s H E => ?_) (fun A outer s H vs Q E hr h => ?_)
  · obtain ⟨a, i, rfl, _⟩ := h
    rfl
  · exact ⟨rfl, rfl, rfl, rfl, ⟨_, _, _, lk, rfl, rfl, rfl⟩, Z.cd, Z.top, Z.mg, rfl, hc, rfl, Z.cl, Z.mr, Z.op, Z.su, Z.ve⟩
  · obtain ⟨a, i, rfl, ha, hi, q⟩ := h
    refine ⟨a, _, _, rfl, ha, pa_cons (pe_joined (.cons pe_str (.cons (pe_fmt (pv 1)) .nil))) pa_nil, pss_one (ps_ost (pv 0) (pv 1)), fun u hu => ?_⟩
    have ua : a ≠ u := ne_of_none ha hu
    refine ⟨_, rfl, by decide, .int i, rfl, .inr ⟨i, rfl, hi, _, rfl, text_fits (by decide) hi, ?_⟩⟩
    refine ⟨rfl, by simp, .int i, rfl, .ref a, rfl, a, C, rfl, T, hno, .inl ⟨(upd_ne ua).trans ha, fun d hd da => ?_⟩⟩
    have du : d ≠ u := fun z => by
      rw [z, upd_same] at hd
      cases hd
    rw [upd_ne du] at hd
    exact q d _ hd da upd_same ((upd_ne da).trans upd_same) fun b o ba hb => (upd_ne ba).trans ((upd_ne (ne_of_none hb hd)).trans ((upd_ne (ne_of_none hb hu)).trans hb))
end
abbrev cNoReading : Stmt := topS 15
abbrev mxNoReading : Stmt := inClass cNoReading 0
theorem scxNoReading : NScope ["self", "number", "__class__"] ["self", "number"] ["__class__"] (defScope mxNoReading) := nscope_by (by decide +kernel)
section
variable {P : Program} {w : World} {K : PySem.W.Frag} {mg : Str → Option Value} {base : Heap}
theorem ok_xNoReading {f C cc cda : Addr} {k : Nat} {dV kV doc pm ct oc : Value} {an od : Option Addr} {osl : Array (Option Value)} (lk : K.lookup f = some ⟨oc, od, .func (PySem.W.fnX "__init__" "NoReading.__init__" (defArgs mxNoReading) (defBody mxNoReading) (defScope mxNoReading) [("__class__", cc)] dV kV doc pm an (.ref cda) ct), osl⟩)
    (hcd : PySem.W.codeIn K (.ref cda) "NoReading.__init__" = true) (T : OexC K C) (hc : ∃ ol : Obj, K.lookup cc = some ol ∧ ol.data = .cell (some (.ref C))) (hno : PySem.W.findIn K (.ref C) "number" = some none) (Z : SupF P K mg C cda) :
    FnOk P w K mg base CX0 (k + 1) f (PySem.W.fnX "__init__" "NoReading.__init__" (defArgs mxNoReading) (defBody mxNoReading) (defScope mxNoReading) [("__class__", cc)] dV kV doc pm an (.ref cda) ct) ["self", "number"] (spX1 C "number") := by
  refine fn_super (N := ["self", "number", "__class__"]) (me := "self") lk hcd scxNoReading (fun vs H Q E h => ?_) T hc rfl rfl (fun _ => ⟨_, rfl⟩) (fun _ => rfl) (fun _ => rfl) (fun _ => rfl) (fun A outer s H E => ?_) (fun A outer s H vs Q E hr h => ?_)
  · obtain ⟨a, i, rfl, _⟩ := h
    rfl
  · exact ⟨rfl, rfl, rfl, rfl, ⟨_, _, _, lk, rfl, rfl, rfl⟩, Z.cd, Z.top, Z.mg, rfl, hc, rfl, Z.cl, Z.mr, Z.op, Z.su, Z.ve⟩
  · obtain ⟨a, i, rfl, ha, hi, q⟩ := h
    refine ⟨a, _, _, rfl, ha, pa_cons (pe_joined (.cons pe_str (.cons (pe_fmt (pv 1)) .nil))) pa_nil, pss_one (ps_ost (pv 0) (pv 1)), fun u hu => ?_⟩
    have ua : a ≠ u := ne_of_none ha hu
    refine ⟨_, rfl, by decide, .int i, rfl, .inr ⟨i, rfl, hi, _, rfl, text_fits (by decide) hi, ?_⟩⟩
    refine ⟨rfl, by simp, .int i, rfl, .ref a, rfl, a, C, rfl, T, hno, .inl ⟨(upd_ne ua).trans ha, fun d hd da => ?_⟩⟩
    have du : d ≠ u := fun z => by
      rw [z, upd_same] at hd
      cases hd
    rw [upd_ne du] at hd
    exact q d _ hd da upd_same ((upd_ne da).trans upd_same) fun b o ba hb => (upd_ne ba).trans ((upd_ne (ne_of_none hb hd)).trans ((upd_ne (ne_of_none hb hu)).trans hb))
end
abbrev cHeld : Stmt := topS 18
abbrev mxHeld : Stmt := inClass cHeld 0
theorem scxHeld : NScope ["self", "who", "__class__"] ["self", "who"] ["__class__"] (defScope mxHeld) := nscope_by (by decide +kernel)
section
variable {P : Program} {w : World} {K : PySem.W.Frag} {mg : Str → Option Value} {base : Heap}
theorem ok_xHeld {f C cc cda : Addr} {k : Nat} {dV kV doc pm ct oc : Value} {an od : Option Addr} {osl : Array (Option Value)} (lk : K.lookup f = some ⟨oc, od, .func (PySem.W.fnX "__init__" "Held.__init__" (defArgs mxHeld) (defBody mxHeld) (defScope mxHeld) [("__class__", cc)] dV kV doc pm an (.ref cda) ct), osl⟩)
    (hcd : PySem.W.codeIn K (.ref cda) "Held.__init__" = true) (T : OexC K C) (hc : ∃ ol : Obj, K.lookup cc = some ol ∧ ol.data = .cell (some (.ref C))) (hno : PySem.W.findIn K (.ref C) "who" = some none) (Z : SupF P K mg C cda) :
    FnOk P w K mg base CX0 (k + 1) f (PySem.W.fnX "__init__" "Held.__init__" (defArgs mxHeld) (defBody mxHeld) (defScope mxHeld) [("__class__", cc)] dV kV doc pm an (.ref cda) ct) ["self", "who"] (spX1 C "who") := by
  refine fn_super (N := ["self", "who", "__class__"]) (me := "self") lk hcd scxHeld (fun vs H Q E h => ?_) T hc rfl rfl (fun _ => ⟨_, rfl⟩) (fun _ => rfl) (fun _ => rfl) (fun _ => rfl) (fun A outer s H E => ?_) (fun A outer s H vs Q E hr h => ?_)
  · obtain ⟨a, i, rfl, _⟩ := h
    rfl
  · exact ⟨rfl, rfl, rfl, rfl, ⟨_, _, _, lk, rfl, rfl, rfl⟩, Z.cd, Z.top, Z.mg, rfl, hc, rfl, Z.cl, Z.mr, Z.op, Z.su, Z.ve⟩
  · obtain ⟨a, i, rfl, ha, hi, q⟩ := h
    refine ⟨a, _, _, rfl, ha, pa_cons (pe_joined (.cons pe_str (.cons (pe_fmt (pv 1)) .nil))) pa_nil, pss_one (ps_ost (pv 0) (pv 1)), fun u hu => ?_⟩
    have ua : a ≠ u := ne_of_none ha hu
    refine ⟨_, rfl, by decide, .int i, rfl, .inr ⟨i, rfl, hi, _, rfl, text_fits (by decide) hi, ?_⟩⟩
    refine ⟨rfl, by simp, .int i, rfl, .ref a, rfl, a, C, rfl, T, hno, .inl ⟨(upd_ne ua).trans ha, fun d hd da => ?_⟩⟩
    have du : d ≠ u := fun z => by
      rw [z, upd_same] at hd
      cases hd
    rw [upd_ne du] at hd
    exact q d _ hd da upd_same ((upd_ne da).trans upd_same) fun b o ba hb => (upd_ne ba).trans ((upd_ne (ne_of_none hb hd)).trans ((upd_ne (ne_of_none hb hu)).trans hb))
end
abbrev cTrimmed : Stmt := topS 19
abbrev mxTrimmed : Stmt := inClass cTrimmed 0
theorem scxTrimmed : NScope ["self", "at", "__class__"] ["self", "at"] ["__class__"] (defScope mxTrimmed) := nscope_by (by decide +kernel)
section
variable {P : Program} {w : World} {K : PySem.W.Frag} {mg : Str → Option Value} {base : Heap}
theorem ok_xTrimmed {f C cc cda : Addr} {k : Nat} {dV kV doc pm ct oc : Value} {an od : Option Addr} {osl : Array (Option Value)} (lk : K.lookup f = some ⟨oc, od, .func (PySem.W.fnX "__init__" "Trimmed.__init__" (defArgs mxTrimmed) (defBody mxTrimmed) (defScope mxTrimmed) [("__class__", cc)] dV kV doc pm an (.ref cda) ct), osl⟩)
    (hcd : PySem.W.codeIn K (.ref cda) "Trimmed.__init__" = true) (T : OexC K C) (hc : ∃ ol : Obj, K.lookup cc = some ol ∧ ol.data = .cell (some (.ref C))) (hno : PySem.W.findIn K (.ref C) "at" = some none) (Z : SupF P K mg C cda) :
    FnOk P w K mg base CX0 (k + 1) f (PySem.W.fnX "__init__" "Trimmed.__init__" (defArgs mxTrimmed) (defBody mxTrimmed) (defScope mxTrimmed) [("__class__", cc)] dV kV doc pm an (.ref cda) ct) ["self", "at"] (spX1 C "at") := by
  refine fn_super (N := ["self", "at", "__class__"]) (me := "self") lk hcd scxTrimmed (fun vs H Q E h => ?_) T hc rfl rfl (fun _ => ⟨_, rfl⟩) (fun _ => rfl) (fun _ => rfl) (fun _ => rfl) (fun A outer s H E => ?_) (fun A outer s H vs Q E hr h => ?_)
  · obtain ⟨a, i, rfl, _⟩ := h
    rfl
  · exact ⟨rfl, rfl, rfl, rfl, ⟨_, _, _, lk, rfl, rfl, rfl⟩, Z.cd, Z.top, Z.mg, rfl, hc, rfl, Z.cl, Z.mr, Z.op, Z.su, Z.ve⟩
  · obtain ⟨a, i, rfl, ha, hi, q⟩ := h
    refine ⟨a, _, _, rfl, ha, pa_cons (pe_joined (.cons pe_str (.cons (pe_fmt (pv 1)) .nil))) pa_nil, pss_one (ps_ost (pv 0) (pv 1)), fun u hu => ?_⟩
    have ua : a ≠ u := ne_of_none ha hu
    refine ⟨_, rfl, by decide, .int i, rfl, .inr ⟨i, rfl, hi, _, rfl, text_fits (by decide) hi, ?_⟩⟩
    refine ⟨rfl, by simp, .int i, rfl, .ref a, rfl, a, C, rfl, T, hno, .inl ⟨(upd_ne ua).trans ha, fun d hd da => ?_⟩⟩
    have du : d ≠ u := fun z => by
      rw [z, upd_same] at hd
      cases hd
    rw [upd_ne du] at hd
    exact q d _ hd da upd_same ((upd_ne da).trans upd_same) fun b o ba hb => (upd_ne ba).trans ((upd_ne (ne_of_none hb hd)).trans ((upd_ne (ne_of_none hb hu)).trans hb))
end
abbrev cWaits : Stmt := topS 20
abbrev mxWaits : Stmt := inClass cWaits 0
theorem scxWaits : NScope ["self", "number", "__class__"] ["self", "number"] ["__class__"] (defScope mxWaits) := nscope_by (by decide +kernel)
section
variable {P : Program} {w : World} {K : PySem.W.Frag} {mg : Str → Option Value} {base : Heap}
theorem ok_xWaits {f C cc cda : Addr} {k : Nat} {dV kV doc pm ct oc : Value} {an od : Option Addr} {osl : Array (Option Value)} (lk : K.lookup f = some ⟨oc, od, .func (PySem.W.fnX "__init__" "Waits.__init__" (defArgs mxWaits) (defBody mxWaits) (defScope mxWaits) [("__class__", cc)] dV kV doc pm an (.ref cda) ct), osl⟩)
    (hcd : PySem.W.codeIn K (.ref cda) "Waits.__init__" = true) (T : OexC K C) (hc : ∃ ol : Obj, K.lookup cc = some ol ∧ ol.data = .cell (some (.ref C))) (hno : PySem.W.findIn K (.ref C) "number" = some none) (Z : SupF P K mg C cda) :
    FnOk P w K mg base CX0 (k + 1) f (PySem.W.fnX "__init__" "Waits.__init__" (defArgs mxWaits) (defBody mxWaits) (defScope mxWaits) [("__class__", cc)] dV kV doc pm an (.ref cda) ct) ["self", "number"] (spX1 C "number") := by
  refine fn_super (N := ["self", "number", "__class__"]) (me := "self") lk hcd scxWaits (fun vs H Q E h => ?_) T hc rfl rfl (fun _ => ⟨_, rfl⟩) (fun _ => rfl) (fun _ => rfl) (fun _ => rfl) (fun A outer s H E => ?_) (fun A outer s H vs Q E hr h => ?_)
  · obtain ⟨a, i, rfl, _⟩ := h
    rfl
  · exact ⟨rfl, rfl, rfl, rfl, ⟨_, _, _, lk, rfl, rfl, rfl⟩, Z.cd, Z.top, Z.mg, rfl, hc, rfl, Z.cl, Z.mr, Z.op, Z.su, Z.ve⟩
  · obtain ⟨a, i, rfl, ha, hi, q⟩ := h
    refine ⟨a, _, _, rfl, ha, pa_cons (pe_joined (.cons pe_str (.cons (pe_fmt (pv 1)) .nil))) pa_nil, pss_one (ps_ost (pv 0) (pv 1)), fun u hu => ?_⟩
    have ua : a ≠ u := ne_of_none ha hu
    refine ⟨_, rfl, by decide, .int i, rfl, .inr ⟨i, rfl, hi, _, rfl, text_fits (by decide) hi, ?_⟩⟩
    refine ⟨rfl, by simp, .int i, rfl, .ref a, rfl, a, C, rfl, T, hno, .inl ⟨(upd_ne ua).trans ha, fun d hd da => ?_⟩⟩
    have du : d ≠ u := fun z => by
      rw [z, upd_same] at hd
      cases hd
    rw [upd_ne du] at hd
    exact q d _ hd da upd_same ((upd_ne da).trans upd_same) fun b o ba hb => (upd_ne ba).trans ((upd_ne (ne_of_none hb hd)).trans ((upd_ne (ne_of_none hb hu)).trans hb))
end
abbrev cNotAsked : Stmt := topS 21
abbrev mxNotAsked : Stmt := inClass cNotAsked 0
theorem scxNotAsked : NScope ["self", "number", "__class__"] ["self", "number"] ["__class__"] (defScope mxNotAsked) := nscope_by (by decide +kernel)
section
variable {P : Program} {w : World} {K : PySem.W.Frag} {mg : Str → Option Value} {base : Heap}
theorem ok_xNotAsked {f C cc cda : Addr} {k : Nat} {dV kV doc pm ct oc : Value} {an od : Option Addr} {osl : Array (Option Value)} (lk : K.lookup f = some ⟨oc, od, .func (PySem.W.fnX "__init__" "NotAsked.__init__" (defArgs mxNotAsked) (defBody mxNotAsked) (defScope mxNotAsked) [("__class__", cc)] dV kV doc pm an (.ref cda) ct), osl⟩)
    (hcd : PySem.W.codeIn K (.ref cda) "NotAsked.__init__" = true) (T : OexC K C) (hc : ∃ ol : Obj, K.lookup cc = some ol ∧ ol.data = .cell (some (.ref C))) (hno : PySem.W.findIn K (.ref C) "number" = some none) (Z : SupF P K mg C cda) :
    FnOk P w K mg base CX0 (k + 1) f (PySem.W.fnX "__init__" "NotAsked.__init__" (defArgs mxNotAsked) (defBody mxNotAsked) (defScope mxNotAsked) [("__class__", cc)] dV kV doc pm an (.ref cda) ct) ["self", "number"] (spX1 C "number") := by
  refine fn_super (N := ["self", "number", "__class__"]) (me := "self") lk hcd scxNotAsked (fun vs H Q E h => ?_) T hc rfl rfl (fun _ => ⟨_, rfl⟩) (fun _ => rfl) (fun _ => rfl) (fun _ => rfl) (fun A outer s H E => ?_) (fun A outer s H vs Q E hr h => ?_)
  · obtain ⟨a, i, rfl, _⟩ := h
    rfl
  · exact ⟨rfl, rfl, rfl, rfl, ⟨_, _, _, lk, rfl, rfl, rfl⟩, Z.cd, Z.top, Z.mg, rfl, hc, rfl, Z.cl, Z.mr, Z.op, Z.su, Z.ve⟩
  · obtain ⟨a, i, rfl, ha, hi, q⟩ := h
    refine ⟨a, _, _, rfl, ha, pa_cons (pe_joined (.cons pe_str (.cons (pe_fmt (pv 1)) .nil))) pa_nil, pss_one (ps_ost (pv 0) (pv 1)), fun u hu => ?_⟩
    have ua : a ≠ u := ne_of_none ha hu
    refine ⟨_, rfl, by decide, .int i, rfl, .inr ⟨i, rfl, hi, _, rfl, text_fits (by decide) hi, ?_⟩⟩
    refine ⟨rfl, by simp, .int i, rfl, .ref a, rfl, a, C, rfl, T, hno, .inl ⟨(upd_ne ua).trans ha, fun d hd da => ?_⟩⟩
    have du : d ≠ u := fun z => by
      rw [z, upd_same] at hd
      cases hd
    rw [upd_ne du] at hd
    exact q d _ hd da upd_same ((upd_ne da).trans upd_same) fun b o ba hb => (upd_ne ba).trans ((upd_ne (ne_of_none hb hd)).trans ((upd_ne (ne_of_none hb hu)).trans hb))
end
abbrev cNoKey : Stmt := topS 22
abbrev mxNoKey : Stmt := inClass cNoKey 0
theorem scxNoKey : NScope ["self", "key", "__class__"] ["self", "key"] ["__class__"] (defScope mxNoKey) := nscope_by (by decide +kernel)
section
variable {P : Program} {w : World} {K : PySem.W.Frag} {mg : Str → Option Value} {base : Heap}
theorem ok_xNoKey {f C cc cda : Addr} {k : Nat} {dV kV doc pm ct oc : Value} {an od : Option Addr} {osl : Array (Option Value)} (lk : K.lookup f = some ⟨oc, od, .func (PySem.W.fnX "__init__" "NoKey.__init__" (defArgs mxNoKey) (defBody mxNoKey) (defScope mxNoKey) [("__class__", cc)] dV kV doc pm an (.ref cda) ct), osl⟩)
    (hcd : PySem.W.codeIn K (.ref cda) "NoKey.__init__" = true) (T : OexC K C) (hc : ∃ ol : Obj, K.lookup cc = some ol ∧ ol.data = .cell (some (.ref C))) (hno : PySem.W.findIn K (.ref C) "key" = some none) (Z : SupF P K mg C cda) :
    FnOk P w K mg base CX0 (k + 1) f (PySem.W.fnX "__init__" "NoKey.__init__" (defArgs mxNoKey) (defBody mxNoKey) (defScope mxNoKey) [("__class__", cc)] dV kV doc pm an (.ref cda) ct) ["self", "key"] (spX1 C "key") := by
  refine fn_super (N := ["self", "key", "__class__"]) (me := "self") lk hcd scxNoKey (fun vs H Q E h => ?_) T hc rfl rfl (fun _ => ⟨_, rfl⟩) (fun _ => rfl) (fun _ => rfl) (fun _ => rfl) (fun A outer s H E => ?_) (fun A outer s H vs Q E hr h => ?_)
  · obtain ⟨a, i, rfl, _⟩ := h
    rfl
  · exact ⟨rfl, rfl, rfl, rfl, ⟨_, _, _, lk, rfl, rfl, rfl⟩, Z.cd, Z.top, Z.mg, rfl, hc, rfl, Z.cl, Z.mr, Z.op, Z.su, Z.ve⟩
  · obtain ⟨a, i, rfl, ha, hi, q⟩ := h
    refine ⟨a, _, _, rfl, ha, pa_cons (pe_joined (.cons pe_str (.cons (pe_fmt (pv 1)) .nil))) pa_nil, pss_one (ps_ost (pv 0) (pv 1)), fun u hu => ?_⟩
    have ua : a ≠ u := ne_of_none ha hu
    refine ⟨_, rfl, by decide, .int i, rfl, .inr ⟨i, rfl, hi, _, rfl, text_fits (by decide) hi, ?_⟩⟩
    refine ⟨rfl, by simp, .int i, rfl, .ref a, rfl, a, C, rfl, T, hno, .inl ⟨(upd_ne ua).trans ha, fun d hd da => ?_⟩⟩
    have du : d ≠ u := fun z => by
      rw [z, upd_same] at hd
      cases hd
    rw [upd_ne du] at hd
    exact q d _ hd da upd_same ((upd_ne da).trans upd_same) fun b o ba hb => (upd_ne ba).trans ((upd_ne (ne_of_none hb hd)).trans ((upd_ne (ne_of_none hb hu)).trans hb))
end
abbrev cNotSure : Stmt := topS 23
abbrev mxNotSure : Stmt := inClass cNotSure 0
theorem scxNotSure : NScope ["self", "key", "__class__"] ["self", "key"] ["__class__"] (defScope mxNotSure) := nscope_by (by decide +kernel)
section
variable {P : Program} {w : World} {K : PySem.W.Frag} {mg : Str → Option Value} {base : Heap}
theorem ok_xNotSure {f C cc cda : Addr} {k : Nat} {dV kV doc pm ct oc : Value} {an od : Option Addr} {osl : Array (Option Value)} (lk : K.lookup f = some ⟨oc, od, .func (PySem.W.fnX "__init__" "NotSure.__init__" (defArgs mxNotSure) (defBody mxNotSure) (defScope mxNotSure) [("__class__", cc)] dV kV doc pm an (.ref cda) ct), osl⟩)
    (hcd : PySem.W.codeIn K (.ref cda) "NotSure.__init__" = true) (T : OexC K C) (hc : ∃ ol : Obj, K.lookup cc = some ol ∧ ol.data = .cell (some (.ref C))) (hno : PySem.W.findIn K (.ref C) "key" = some none) (Z : SupF P K mg C cda) :
    FnOk P w K mg base CX0 (k + 1) f (PySem.W.fnX "__init__" "NotSure.__init__" (defArgs mxNotSure) (defBody mxNotSure) (defScope mxNotSure) [("__class__", cc)] dV kV doc pm an (.ref cda) ct) ["self", "key"] (spX1 C "key") := by
  refine fn_super (N := ["self", "key", "__class__"]) (me := "self") lk hcd scxNotSure (fun vs H Q E h => ?_) T hc rfl rfl (fun _ => ⟨_, rfl⟩) (fun _ => rfl) (fun _ => rfl) (fun _ => rfl) (fun A outer s H E => ?_) (fun A outer s H vs Q E hr h => ?_)
  · obtain ⟨a, i, rfl, _⟩ := h
    rfl
  · exact ⟨rfl, rfl, rfl, rfl, ⟨_, _, _, lk, rfl, rfl, rfl⟩, Z.cd, Z.top, Z.mg, rfl, hc, rfl, Z.cl, Z.mr, Z.op, Z.su, Z.ve⟩
  · obtain ⟨a, i, rfl, ha, hi, q⟩ := h
    refine ⟨a, _, _, rfl, ha, pa_cons (pe_joined (.cons pe_str (.cons (pe_fmt (pv 1)) .nil))) pa_nil, pss_one (ps_ost (pv 0) (pv 1)), fun u hu => ?_⟩
    have ua : a ≠ u := ne_of_none ha hu
    refine ⟨_, rfl, by decide, .int i, rfl, .inr ⟨i, rfl, hi, _, rfl, text_fits (by decide) hi, ?_⟩⟩
    refine ⟨rfl, by simp, .int i, rfl, .ref a, rfl, a, C, rfl, T, hno, .inl ⟨(upd_ne ua).trans ha, fun d hd da => ?_⟩⟩
    have du : d ≠ u := fun z => by
      rw [z, upd_same] at hd
      cases hd
    rw [upd_ne du] at hd
    exact q d _ hd da upd_same ((upd_ne da).trans upd_same) fun b o ba hb => (upd_ne ba).trans ((upd_ne (ne_of_none hb hd)).trans ((upd_ne (ne_of_none hb hu)).trans hb))
end
abbrev cNoTaker : Stmt := topS 24
abbrev mxNoTaker : Stmt := inClass cNoTaker 0
theorem scxNoTaker : NScope ["self", "name", "__class__"] ["self", "name"] ["__class__"] (defScope mxNoTaker) := nscope_by (by decide +kernel)
section
variable {P : Program} {w : World} {K : PySem.W.Frag} {mg : Str → Option Value} {base : Heap}
theorem ok_xNoTaker {f C cc cda : Addr} {k : Nat} {dV kV doc pm ct oc : Value} {an od : Option Addr} {osl : Array (Option Value)} (lk : K.lookup f = some ⟨oc, od, .func (PySem.W.fnX "__init__" "NoTaker.__init__" (defArgs mxNoTaker) (defBody mxNoTaker) (defScope mxNoTaker) [("__class__", cc)] dV kV doc pm an (.ref cda) ct), osl⟩)
    (hcd : PySem.W.codeIn K (.ref cda) "NoTaker.__init__" = true) (T : OexC K C) (hc : ∃ ol : Obj, K.lookup cc = some ol ∧ ol.data = .cell (some (.ref C))) (hno : PySem.W.findIn K (.ref C) "name" = some none) (Z : SupF P K mg C cda) :
    FnOk P w K mg base CX0 (k + 1) f (PySem.W.fnX "__init__" "NoTaker.__init__" (defArgs mxNoTaker) (defBody mxNoTaker) (defScope mxNoTaker) [("__class__", cc)] dV kV doc pm an (.ref cda) ct) ["self", "name"] (spXS C "name") := by
  refine fn_super (N := ["self", "name", "__class__"]) (me := "self") lk hcd scxNoTaker (fun vs H Q E h => ?_) T hc rfl rfl (fun _ => ⟨_, rfl⟩) (fun _ => rfl) (fun _ => rfl) (fun _ => rfl) (fun A outer s H E => ?_) (fun A outer s H vs Q E hr h => ?_)
  · obtain ⟨a, i, rfl, _⟩ := h
    rfl
  · exact ⟨rfl, rfl, rfl, rfl, ⟨_, _, _, lk, rfl, rfl, rfl⟩, Z.cd, Z.top, Z.mg, rfl, hc, rfl, Z.cl, Z.mr, Z.op, Z.su, Z.ve⟩
  · obtain ⟨a, i, rfl, ha, hi, q⟩ := h
    refine ⟨a, _, _, rfl, ha, pa_cons (pe_joined (.cons pe_str (.cons (pe_fmt (pv 1)) .nil))) pa_nil, pss_one (ps_ost (pv 0) (pv 1)), fun u hu => ?_⟩
    have ua : a ≠ u := ne_of_none ha hu
    refine ⟨_, rfl, by decide, .str i, rfl, .inl ⟨i, rfl, sz_of (by omega), _, rfl, text_fitsS (by decide +kernel) hi, ?_⟩⟩
    refine ⟨rfl, by simp, .str i, rfl, .ref a, rfl, a, C, rfl, T, hno, .inl ⟨(upd_ne ua).trans ha, fun d hd da => ?_⟩⟩
    have du : d ≠ u := fun z => by
      rw [z, upd_same] at hd
      cases hd
    rw [upd_ne du] at hd
    exact q d _ hd da upd_same ((upd_ne da).trans upd_same) fun b o ba hb => (upd_ne ba).trans ((upd_ne (ne_of_none hb hd)).trans ((upd_ne (ne_of_none hb hu)).trans hb))
end
abbrev cNotOnWire : Stmt := topS 25
abbrev mxNotOnWire : Stmt := inClass cNotOnWire 0
theorem scxNotOnWire : NScope ["self", "number", "__class__"] ["self", "number"] ["__class__"] (defScope mxNotOnWire) := nscope_by (by decide +kernel)
section
variable {P : Program} {w : World} {K : PySem.W.Frag} {mg : Str → Option Value} {base : Heap}
theorem ok_xNotOnWire {f C cc cda : Addr} {k : Nat} {dV kV doc pm ct oc : Value} {an od : Option Addr} {osl : Array (Option Value)} (lk : K.lookup f = some ⟨oc, od, .func (PySem.W.fnX "__init__" "NotOnWire.__init__" (defArgs mxNotOnWire) (defBody mxNotOnWire) (defScope mxNotOnWire) [("__class__", cc)] dV kV doc pm an (.ref cda) ct), osl⟩)
    (hcd : PySem.W.codeIn K (.ref cda) "NotOnWire.__init__" = true) (T : OexC K C) (hc : ∃ ol : Obj, K.lookup cc = some ol ∧ ol.data = .cell (some (.ref C))) (hno : PySem.W.findIn K (.ref C) "number" = some none) (Z : SupF P K mg C cda) :
    FnOk P w K mg base CX0 (k + 1) f (PySem.W.fnX "__init__" "NotOnWire.__init__" (defArgs mxNotOnWire) (defBody mxNotOnWire) (defScope mxNotOnWire) [("__class__", cc)] dV kV doc pm an (.ref cda) ct) ["self", "number"] (spX1 C "number") := by
  refine fn_super (N := ["self", "number", "__class__"]) (me := "self") lk hcd scxNotOnWire (fun vs H Q E h => ?_) T hc rfl rfl (fun _ => ⟨_, rfl⟩) (fun _ => rfl) (fun _ => rfl) (fun _ => rfl) (fun A outer s H E => ?_) (fun A outer s H vs Q E hr h => ?_)
  · obtain ⟨a, i, rfl, _⟩ := h
    rfl
  · exact ⟨rfl, rfl, rfl, rfl, ⟨_, _, _, lk, rfl, rfl, rfl⟩, Z.cd, Z.top, Z.mg, rfl, hc, rfl, Z.cl, Z.mr, Z.op, Z.su, Z.ve⟩
  · obtain ⟨a, i, rfl, ha, hi, q⟩ := h
    refine ⟨a, _, _, rfl, ha, pa_cons (pe_joined (.cons pe_str (.cons (pe_fmt (pv 1)) .nil))) pa_nil, pss_one (ps_ost (pv 0) (pv 1)), fun u hu => ?_⟩
    have ua : a ≠ u := ne_of_none ha hu
    refine ⟨_, rfl, by decide, .int i, rfl, .inr ⟨i, rfl, hi, _, rfl, text_fits (by decide) hi, ?_⟩⟩
    refine ⟨rfl, by simp, .int i, rfl, .ref a, rfl, a, C, rfl, T, hno, .inl ⟨(upd_ne ua).trans ha, fun d hd da => ?_⟩⟩
    have du : d ≠ u := fun z => by
      rw [z, upd_same] at hd
      cases hd
    rw [upd_ne du] at hd
    exact q d _ hd da upd_same ((upd_ne da).trans upd_same) fun b o ba hb => (upd_ne ba).trans ((upd_ne (ne_of_none hb hd)).trans ((upd_ne (ne_of_none hb hu)).trans hb))
end
end K49
/-! the top's run looked at in parts -/
namespace Tc
open PySem PySem.Spec PyProof.Rows L2 He HandSHeadRun PySem.W
theorem obsM_app (fs1 fs2 : List (PySem.W.Frag → Bool)) (fn1 fn2 : List DefD) (xs : List XcD) (K : PySem.W.Frag) (h1 : obsM fs1 fn1 xs K = valM fn1 xs) (h2 : obsM fs2 fn2 [] K = valM fn2 []) : obsM (fs1 ++ fs2) (fn1 ++ fn2) xs K = valM (fn1 ++ fn2) xs := by
  have a1 := congrArg (fun z : AlM => z.1) h1
  have a2 := congrArg (fun z : AlM => z.2.1) h1
  have a3 := congrArg (fun z : AlM => z.2.2) h1
  have b1 := congrArg (fun z : AlM => z.1) h2
  have b2 := congrArg (fun z : AlM => z.2.1) h2
  obtain ⟨c1, c2⟩ := ba (show ((fs1.all fun f => f K) && fn1.all fun d => d.ok K) = true from a1)
  obtain ⟨d1, d2⟩ := ba (show ((fs2.all fun f => f K) && fn2.all fun d => d.ok K) = true from b1)
  refine Prod.ext ?_ (Prod.ext ?_ a3)
  · show (((fs1 ++ fs2).all fun f => f K) && (fn1 ++ fn2).all fun d => d.ok K) = true
    rw [List.all_append, List.all_append, c1, c2, d1, d2]
    rfl
  · show (fn1 ++ fn2).map (fun d => fnW K d.at_) = (fn1 ++ fn2).map DefD.val
    rw [List.map_append, List.map_append]
    exact congr (congrArg _ a2) b2
theorem run_parts {r : OpenRow} {q : Program} {n M : Nat} {loose : List PySem.Str} {w : World} {fs1 fs2 : List (PySem.W.Frag → Bool)} {fn1 fn2 : List DefD} {xs : List XcD}
    (hA : ∀ os : OsState, (endF (stepQ (denQ tabQ) r.prog w) M r.prog w os).map (fun s => (looksF r.prog (boot_heap w.params) s.abs, seenQ q loose (importedModules r.prog.main.body) (fun s => xlAt q [] s && recOk r.toRowW.records s) s.abs)) = some (true, openGood q loose))
    (hB : ∀ os : OsState, (endF (stepQ (denQ tabQ) r.prog w) M r.prog w os).map (fun s => obsMG n fs1 fn1 xs (getT s)) = some (valM fn1 xs))
    (hC : ∀ os : OsState, (endF (stepQ (denQ tabQ) r.prog w) M r.prog w os).map (fun s => obsMG n fs2 fn2 [] (getT s)) = some (valM fn2 [])) :
    RunEq r q (hookM n (fs1 ++ fs2) (fn1 ++ fn2) xs) (fun s => obsMG n (fs1 ++ fs2) (fn1 ++ fn2) xs (getT s)) M loose w := fun os => by
  obtain ⟨s, e, a⟩ := Option.map_eq_some_iff.mp (hA os)
  have b := hB os
  have c := hC os
  rw [e] at b c
  rw [e]
  have b' : obsMG n fs1 fn1 xs (getT s) = valM fn1 xs := Option.some.inj b
  have c' : obsMG n fs2 fn2 [] (getT s) = valM fn2 [] := Option.some.inj c
  obtain ⟨a1, a2⟩ := Prod.mk.inj a
  refine congrArg some (Prod.ext a1 (Prod.ext a2 ?_))
  exact obsM_app fs1 fs2 fn1 fn2 xs _ b' c'
end Tc
namespace K49
open PySem L2 PyProof.Rows Tc Evl
def fileN : Str := PySem.Challenge.pw_tidecopy_k49_refusals_apart.main.file
def eqE (K : PySem.W.Frag) (x : Str) : Bool := He.eqO (PySem.W.nsIn K mainGlobals x) (some (some (.ref (He.ga K x))))
def hfs1 : List (PySem.W.Frag → Bool) := [fun K => (He.Fa.glo "_law_bag").ok K,
  fun K => (He.Fa.glo "_law_take").ok K,
  fun K => (He.Fa.glo "_law_name").ok K,
  fun K => (He.Fa.glo "_law_kinds").ok K,
  fun K => (He.Fa.glo "_law_field").ok K,
  fun K => (He.Fa.glo "_law_made_right").ok K,
  fun K => (He.Fa.glo "law").ok K,
  fun K => (He.Fa.free "isinstance").ok K,
  fun K => (He.Fa.free "int").ok K,
  fun K => (He.Fa.free "str").ok K,
  fun K => (He.Fa.free "len").ok K,
  fun K => (He.Fa.free "range").ok K,
  fun K => (He.Fa.free "min").ok K,
  fun K => (He.Fa.free "abs").ok K,
  fun K => (He.Fa.free "ValueError").ok K,
  fun K => (He.Fa.glo "TideError").ok K,
  fun K => decide (PySem.W.kitOne K (.ref (He.ga K "NoTable")) (.ref (He.ga K "TideError")) = some true),
  fun K => (He.Fa.glo "NoTable").ok K,
  fun K => (He.Fa.exc "NoTable").ok K,
  fun K => eqE K "NoTable" && excB K (He.ga K "NoTable") (flX 1 13),
  fun K => decide (PySem.W.kitOne K (.ref (He.ga K "NoChange")) (.ref (He.ga K "TideError")) = some true),
  fun K => (He.Fa.glo "NoChange").ok K,
  fun K => (He.Fa.exc "NoChange").ok K,
  fun K => eqE K "NoChange" && excB K (He.ga K "NoChange") (flX 1 4),
  fun K => decide (PySem.W.kitOne K (.ref (He.ga K "NoStretch")) (.ref (He.ga K "TideError")) = some true),
  fun K => (He.Fa.glo "NoStretch").ok K,
  fun K => (He.Fa.exc "NoStretch").ok K,
  fun K => eqE K "NoStretch" && excB K (He.ga K "NoStretch") (flX 1 12),
  fun K => decide (PySem.W.kitOne K (.ref (He.ga K "NoRows")) (.ref (He.ga K "TideError")) = some true),
  fun K => (He.Fa.glo "NoRows").ok K,
  fun K => (He.Fa.exc "NoRows").ok K,
  fun K => eqE K "NoRows" && excB K (He.ga K "NoRows") (flX 1 11),
  fun K => decide (PySem.W.kitOne K (.ref (He.ga K "NoName")) (.ref (He.ga K "TideError")) = some true),
  fun K => (He.Fa.glo "NoName").ok K,
  fun K => (He.Fa.exc "NoName").ok K,
  fun K => eqE K "NoName" && excB K (He.ga K "NoName") (flX 1 7),
  fun K => decide (PySem.W.kitOne K (.ref (He.ga K "NoText")) (.ref (He.ga K "TideError")) = some true),
  fun K => xcB3 K fileN "NoText" "line" (flX 1 15),
  fun K => decide (PySem.W.kitOne K (.ref (He.ga K "NoRow")) (.ref (He.ga K "TideError")) = some true),
  fun K => (He.Fa.glo "NoRow").ok K,
  fun K => (He.Fa.exc "NoRow").ok K]
def hfs2 : List (PySem.W.Frag → Bool) := [fun K => eqE K "NoRow" && excB K (He.ga K "NoRow") (flX 1 10),
  fun K => decide (PySem.W.kitOne K (.ref (He.ga K "TooMany")) (.ref (He.ga K "TideError")) = some true),
  fun K => xcB K fileN "TooMany" "many" (flX 1 21),
  fun K => decide (PySem.W.kitOne K (.ref (He.ga K "Twice")) (.ref (He.ga K "TideError")) = some true),
  fun K => (He.Fa.glo "Twice").ok K,
  fun K => (He.Fa.exc "Twice").ok K,
  fun K => eqE K "Twice" && excB K (He.ga K "Twice") (flX 1 23),
  fun K => decide (PySem.W.kitOne K (.ref (He.ga K "NoPlace")) (.ref (He.ga K "TideError")) = some true),
  fun K => xcB K fileN "NoPlace" "at" (flX 0 8),
  fun K => decide (PySem.W.kitOne K (.ref (He.ga K "NoLife")) (.ref (He.ga K "TideError")) = some true),
  fun K => xcB K fileN "NoLife" "who" (flX 0 6),
  fun K => decide (PySem.W.kitOne K (.ref (He.ga K "NoReading")) (.ref (He.ga K "TideError")) = some true),
  fun K => xcB K fileN "NoReading" "number" (flX 0 9),
  fun K => decide (PySem.W.kitOne K (.ref (He.ga K "Ended")) (.ref (He.ga K "TideError")) = some true),
  fun K => (He.Fa.glo "Ended").ok K,
  fun K => (He.Fa.exc "Ended").ok K,
  fun K => eqE K "Ended" && excB K (He.ga K "Ended") (flX 0 2),
  fun K => decide (PySem.W.kitOne K (.ref (He.ga K "NotEnded")) (.ref (He.ga K "TideError")) = some true),
  fun K => (He.Fa.glo "NotEnded").ok K,
  fun K => (He.Fa.exc "NotEnded").ok K,
  fun K => eqE K "NotEnded" && excB K (He.ga K "NotEnded") (flX 0 17),
  fun K => decide (PySem.W.kitOne K (.ref (He.ga K "Held")) (.ref (He.ga K "TideError")) = some true),
  fun K => xcB K fileN "Held" "who" (flX 0 3),
  fun K => decide (PySem.W.kitOne K (.ref (He.ga K "Trimmed")) (.ref (He.ga K "TideError")) = some true),
  fun K => xcB K fileN "Trimmed" "at" (flX 0 22),
  fun K => decide (PySem.W.kitOne K (.ref (He.ga K "Waits")) (.ref (He.ga K "TideError")) = some true),
  fun K => xcB K fileN "Waits" "number" (flX 0 24),
  fun K => decide (PySem.W.kitOne K (.ref (He.ga K "NotAsked")) (.ref (He.ga K "TideError")) = some true),
  fun K => xcB K fileN "NotAsked" "number" (flX 0 16),
  fun K => decide (PySem.W.kitOne K (.ref (He.ga K "NoKey")) (.ref (He.ga K "TideError")) = some true),
  fun K => xcB K fileN "NoKey" "key" (flX 0 5),
  fun K => decide (PySem.W.kitOne K (.ref (He.ga K "NotSure")) (.ref (He.ga K "TideError")) = some true),
  fun K => xcB K fileN "NotSure" "key" (flX 0 20),
  fun K => decide (PySem.W.kitOne K (.ref (He.ga K "NoTaker")) (.ref (He.ga K "TideError")) = some true),
  fun K => xcB K fileN "NoTaker" "name" (flX 0 14),
  fun K => decide (PySem.W.kitOne K (.ref (He.ga K "NotOnWire")) (.ref (He.ga K "TideError")) = some true),
  fun K => xcB K fileN "NotOnWire" "number" (flX 0 19),
  fun K => decide (PySem.W.kitOne K (.ref (He.ga K "NothingLeft")) (.ref (He.ga K "TideError")) = some true),
  fun K => (He.Fa.glo "NothingLeft").ok K,
  fun K => (He.Fa.exc "NothingLeft").ok K,
  fun K => eqE K "NothingLeft" && excB K (He.ga K "NothingLeft") (flX 0 18)]
def hfn1 : List He.DefD := [⟨("_law_bag", none), "_law_bag", "_law_bag", defArgs sBag, defBody sBag, defScope sBag, [], []⟩,
  ⟨("_law_take", none), "_law_take", "_law_take", defArgs sTake, defBody sTake, defScope sTake, [], []⟩,
  ⟨("_law_name", none), "_law_name", "_law_name", defArgs sName, defBody sName, defScope sName, [], []⟩]
def hfn2 : List He.DefD := [⟨("_law_kinds", none), "_law_kinds", "_law_kinds", defArgs sKinds, defBody sKinds, defScope sKinds, [], []⟩,
  ⟨("_law_field", none), "_law_field", "_law_field", defArgs sField, defBody sField, defScope sField, [], []⟩,
  ⟨("_law_made_right", none), "_law_made_right", "_law_made_right", defArgs sMr, defBody sMr, defScope sMr, [], []⟩,
  ⟨("law", none), "law", "law", defArgs sLaw, defBody sLaw, defScope sLaw, [], []⟩]
abbrev hfs : List (PySem.W.Frag → Bool) := hfs1 ++ hfs2
abbrev hfn : List He.DefD := hfn1 ++ hfn2
def hxs : List XcD := [⟨"NoText", "NoText.__init__", defArgs mxNoText, defBody mxNoText, defScope mxNoText⟩,
  ⟨"TooMany", "TooMany.__init__", defArgs mxTooMany, defBody mxTooMany, defScope mxTooMany⟩,
  ⟨"NoPlace", "NoPlace.__init__", defArgs mxNoPlace, defBody mxNoPlace, defScope mxNoPlace⟩,
  ⟨"NoLife", "NoLife.__init__", defArgs mxNoLife, defBody mxNoLife, defScope mxNoLife⟩,
  ⟨"NoReading", "NoReading.__init__", defArgs mxNoReading, defBody mxNoReading, defScope mxNoReading⟩,
  ⟨"Held", "Held.__init__", defArgs mxHeld, defBody mxHeld, defScope mxHeld⟩,
  ⟨"Trimmed", "Trimmed.__init__", defArgs mxTrimmed, defBody mxTrimmed, defScope mxTrimmed⟩,
  ⟨"Waits", "Waits.__init__", defArgs mxWaits, defBody mxWaits, defScope mxWaits⟩,
  ⟨"NotAsked", "NotAsked.__init__", defArgs mxNotAsked, defBody mxNotAsked, defScope mxNotAsked⟩,
  ⟨"NoKey", "NoKey.__init__", defArgs mxNoKey, defBody mxNoKey, defScope mxNoKey⟩,
  ⟨"NotSure", "NotSure.__init__", defArgs mxNotSure, defBody mxNotSure, defScope mxNotSure⟩,
  ⟨"NoTaker", "NoTaker.__init__", defArgs mxNoTaker, defBody mxNoTaker, defScope mxNoTaker⟩,
  ⟨"NotOnWire", "NotOnWire.__init__", defArgs mxNotOnWire, defBody mxNotOnWire, defScope mxNotOnWire⟩]
set_option maxHeartbeats 4000000 in
theorem all_mk {P : Program} {w : World} {K : PySem.W.Frag} {h : Heap} {mg : Str → Option Value} {fa : Addr} (X : K.In h) (G : h.Ns mainGlobals mg) (hfa : mg "law" = some (.ref fa)) (xFile : P.main.file = fileN) (xP : (P.main.scope.names.lookup ("super" : Str)).isSome = false) (c : SaysM hfs hfn hxs K) :
    ∃ fd : FuncData, (∀ (s : Shared) (v : Value), BindsTo s fd ⟨[v], []⟩ [("script", v)]) ∧ ∀ base : Heap, K.In base → base.Ns mainGlobals mg → FnOk P w K mg base CX0 5 fa fd ["script"] (spLaw K) := by
  obtain ⟨fd1, FD1⟩ : ∃ fd, FunD K "_law_bag" "_law_bag" (defArgs sBag) (defBody sBag) (defScope sBag) [] [] (He.ga K "_law_bag") fd := c.def_ 0
  have F1 := fun_of FD1
  have m1 := He.glo_ok X G (c.fact 0 (f := fun K => (He.Fa.glo "_law_bag").ok K) rfl)
  have b1 := F1.binds (ps := ["script", "k"]) fun _ _ _ _ _ _ us hl => match us, hl with | [_, _], _ => rfl
  obtain ⟨fd2, FD2⟩ : ∃ fd, FunD K "_law_take" "_law_take" (defArgs sTake) (defBody sTake) (defScope sTake) [] [] (He.ga K "_law_take") fd := c.def_ 1
  have F2 := fun_of FD2
  have m2 := He.glo_ok X G (c.fact 1 (f := fun K => (He.Fa.glo "_law_take").ok K) rfl)
  have b2 := F2.binds (ps := ["bag", "man1"]) fun _ _ _ _ _ _ us hl => match us, hl with | [_, _], _ => rfl
  obtain ⟨fd3, FD3⟩ : ∃ fd, FunD K "_law_name" "_law_name" (defArgs sName) (defBody sName) (defScope sName) [] [] (He.ga K "_law_name") fd := c.def_ 2
  have F3 := fun_of FD3
  have m3 := He.glo_ok X G (c.fact 2 (f := fun K => (He.Fa.glo "_law_name").ok K) rfl)
  have b3 := F3.binds (ps := ["bag"]) fun _ _ _ _ _ _ us hl => match us, hl with | [_], _ => rfl
  obtain ⟨fd4, FD4⟩ : ∃ fd, FunD K "_law_kinds" "_law_kinds" (defArgs sKinds) (defBody sKinds) (defScope sKinds) [] [] (He.ga K "_law_kinds") fd := c.def_ 3
  have F4 := fun_of FD4
  have m4 := He.glo_ok X G (c.fact 3 (f := fun K => (He.Fa.glo "_law_kinds").ok K) rfl)
  have b4 := F4.binds (ps := ["e"]) fun _ _ _ _ _ _ us hl => match us, hl with | [_], _ => rfl
  obtain ⟨fd5, FD5⟩ : ∃ fd, FunD K "_law_field" "_law_field" (defArgs sField) (defBody sField) (defScope sField) [] [] (He.ga K "_law_field") fd := c.def_ 4
  have F5 := fun_of FD5
  have m5 := He.glo_ok X G (c.fact 4 (f := fun K => (He.Fa.glo "_law_field").ok K) rfl)
  have b5 := F5.binds (ps := ["e"]) fun _ _ _ _ _ _ us hl => match us, hl with | [_], _ => rfl
  obtain ⟨fd6, FD6⟩ : ∃ fd, FunD K "_law_made_right" "_law_made_right" (defArgs sMr) (defBody sMr) (defScope sMr) [] [] (He.ga K "_law_made_right") fd := c.def_ 5
  have F6 := fun_of FD6
  have m6 := He.glo_ok X G (c.fact 5 (f := fun K => (He.Fa.glo "_law_made_right").ok K) rfl)
  have b6 := F6.binds (ps := ["e", "due"]) fun _ _ _ _ _ _ us hl => match us, hl with | [_, _], _ => rfl
  obtain ⟨fd7, FD7⟩ : ∃ fd, FunD K "law" "law" (defArgs sLaw) (defBody sLaw) (defScope sLaw) [] [] (He.ga K "law") fd := c.def_ 6
  have F7 := fun_of FD7
  have m7 := He.glo_ok X G (c.fact 6 (f := fun K => (He.Fa.glo "law").ok K) rfl)
  have N : Names mg := ⟨He.free_ok X G (c.fact 7 (f := fun K => (He.Fa.free "isinstance").ok K) rfl), He.free_ok X G (c.fact 8 (f := fun K => (He.Fa.free "int").ok K) rfl), He.free_ok X G (c.fact 9 (f := fun K => (He.Fa.free "str").ok K) rfl), He.free_ok X G (c.fact 10 (f := fun K => (He.Fa.free "len").ok K) rfl), He.free_ok X G (c.fact 11 (f := fun K => (He.Fa.free "range").ok K) rfl), He.free_ok X G (c.fact 12 (f := fun K => (He.Fa.free "min").ok K) rfl), He.free_ok X G (c.fact 13 (f := fun K => (He.Fa.free "abs").ok K) rfl), He.free_ok X G (c.fact 14 (f := fun K => (He.Fa.free "ValueError").ok K) rfl)⟩
  have mTE := He.glo_ok X G (c.fact 15 (f := fun K => (He.Fa.glo "TideError").ok K) rfl)
  have ktNoTable : ∃ c, mg "TideError" = some (.ref c) ∧ PySem.W.kitOne K (.ref (He.ga K "NoTable")) (.ref c) = some true := ⟨_, mTE, of_decide_eq_true (c.fact 16 (f := fun K => decide (PySem.W.kitOne K (.ref (He.ga K "NoTable")) (.ref (He.ga K "TideError")) = some true)) rfl)⟩
  have zENoTable := He.ba (c.fact 19 (f := fun K => eqE K "NoTable" && excB K (He.ga K "NoTable") (flX 1 13)) rfl)
  have ENoTable : ExC K mg "NoTable" (He.ga K "NoTable") (flX 1 13) := excB_ok X G (He.eqO_ok zENoTable.1) zENoTable.2
  have d0NoTable : OwnE0 K mg "NoTable" (He.ga K "NoTable") He.veBase := by
    have z := He.exc_ok (c.fact 18 (f := fun K => (He.Fa.exc "NoTable").ok K) rfl)
    exact ⟨z.1, He.glo_ok X G (c.fact 17 (f := fun K => (He.Fa.glo "NoTable").ok K) rfl), z.2.1, z.2.2.1, z.2.2.2⟩
  have ktNoChange : ∃ c, mg "TideError" = some (.ref c) ∧ PySem.W.kitOne K (.ref (He.ga K "NoChange")) (.ref c) = some true := ⟨_, mTE, of_decide_eq_true (c.fact 20 (f := fun K => decide (PySem.W.kitOne K (.ref (He.ga K "NoChange")) (.ref (He.ga K "TideError")) = some true)) rfl)⟩
  have zENoChange := He.ba (c.fact 23 (f := fun K => eqE K "NoChange" && excB K (He.ga K "NoChange") (flX 1 4)) rfl)
  have ENoChange : ExC K mg "NoChange" (He.ga K "NoChange") (flX 1 4) := excB_ok X G (He.eqO_ok zENoChange.1) zENoChange.2
  have d0NoChange : OwnE0 K mg "NoChange" (He.ga K "NoChange") He.veBase := by
    have z := He.exc_ok (c.fact 22 (f := fun K => (He.Fa.exc "NoChange").ok K) rfl)
    exact ⟨z.1, He.glo_ok X G (c.fact 21 (f := fun K => (He.Fa.glo "NoChange").ok K) rfl), z.2.1, z.2.2.1, z.2.2.2⟩
  have ktNoStretch : ∃ c, mg "TideError" = some (.ref c) ∧ PySem.W.kitOne K (.ref (He.ga K "NoStretch")) (.ref c) = some true := ⟨_, mTE, of_decide_eq_true (c.fact 24 (f := fun K => decide (PySem.W.kitOne K (.ref (He.ga K "NoStretch")) (.ref (He.ga K "TideError")) = some true)) rfl)⟩
  have zENoStretch := He.ba (c.fact 27 (f := fun K => eqE K "NoStretch" && excB K (He.ga K "NoStretch") (flX 1 12)) rfl)
  have ENoStretch : ExC K mg "NoStretch" (He.ga K "NoStretch") (flX 1 12) := excB_ok X G (He.eqO_ok zENoStretch.1) zENoStretch.2
  have d0NoStretch : OwnE0 K mg "NoStretch" (He.ga K "NoStretch") He.veBase := by
    have z := He.exc_ok (c.fact 26 (f := fun K => (He.Fa.exc "NoStretch").ok K) rfl)
    exact ⟨z.1, He.glo_ok X G (c.fact 25 (f := fun K => (He.Fa.glo "NoStretch").ok K) rfl), z.2.1, z.2.2.1, z.2.2.2⟩
  have ktNoRows : ∃ c, mg "TideError" = some (.ref c) ∧ PySem.W.kitOne K (.ref (He.ga K "NoRows")) (.ref c) = some true := ⟨_, mTE, of_decide_eq_true (c.fact 28 (f := fun K => decide (PySem.W.kitOne K (.ref (He.ga K "NoRows")) (.ref (He.ga K "TideError")) = some true)) rfl)⟩
  have zENoRows := He.ba (c.fact 31 (f := fun K => eqE K "NoRows" && excB K (He.ga K "NoRows") (flX 1 11)) rfl)
  have ENoRows : ExC K mg "NoRows" (He.ga K "NoRows") (flX 1 11) := excB_ok X G (He.eqO_ok zENoRows.1) zENoRows.2
  have d0NoRows : OwnE0 K mg "NoRows" (He.ga K "NoRows") He.veBase := by
    have z := He.exc_ok (c.fact 30 (f := fun K => (He.Fa.exc "NoRows").ok K) rfl)
    exact ⟨z.1, He.glo_ok X G (c.fact 29 (f := fun K => (He.Fa.glo "NoRows").ok K) rfl), z.2.1, z.2.2.1, z.2.2.2⟩
  have ktNoName : ∃ c, mg "TideError" = some (.ref c) ∧ PySem.W.kitOne K (.ref (He.ga K "NoName")) (.ref c) = some true := ⟨_, mTE, of_decide_eq_true (c.fact 32 (f := fun K => decide (PySem.W.kitOne K (.ref (He.ga K "NoName")) (.ref (He.ga K "TideError")) = some true)) rfl)⟩
  have zENoName := He.ba (c.fact 35 (f := fun K => eqE K "NoName" && excB K (He.ga K "NoName") (flX 1 7)) rfl)
  have ENoName : ExC K mg "NoName" (He.ga K "NoName") (flX 1 7) := excB_ok X G (He.eqO_ok zENoName.1) zENoName.2
  have d0NoName : OwnE0 K mg "NoName" (He.ga K "NoName") He.veBase := by
    have z := He.exc_ok (c.fact 34 (f := fun K => (He.Fa.exc "NoName").ok K) rfl)
    exact ⟨z.1, He.glo_ok X G (c.fact 33 (f := fun K => (He.Fa.glo "NoName").ok K) rfl), z.2.1, z.2.2.1, z.2.2.2⟩
  have ktNoText : ∃ c, mg "TideError" = some (.ref c) ∧ PySem.W.kitOne K (.ref (He.ga K "NoText")) (.ref c) = some true := ⟨_, mTE, of_decide_eq_true (c.fact 36 (f := fun K => decide (PySem.W.kitOne K (.ref (He.ga K "NoText")) (.ref (He.ga K "TideError")) = some true)) rfl)⟩
  obtain ⟨INoText, WNoText, ANoText, xoNoText⟩ := xc_ok3 (P := P) (fld := "line") (fl := (flX 1 15)) X G xP (c.exc 0) (by have h := c.fact 37 (f := fun K => xcB3 K fileN "NoText" "line" (flX 1 15)) rfl; rw [← xFile] at h; exact h)
  have ktNoRow : ∃ c, mg "TideError" = some (.ref c) ∧ PySem.W.kitOne K (.ref (He.ga K "NoRow")) (.ref c) = some true := ⟨_, mTE, of_decide_eq_true (c.fact 38 (f := fun K => decide (PySem.W.kitOne K (.ref (He.ga K "NoRow")) (.ref (He.ga K "TideError")) = some true)) rfl)⟩
  have zENoRow := He.ba (c.fact 41 (f := fun K => eqE K "NoRow" && excB K (He.ga K "NoRow") (flX 1 10)) rfl)
  have ENoRow : ExC K mg "NoRow" (He.ga K "NoRow") (flX 1 10) := excB_ok X G (He.eqO_ok zENoRow.1) zENoRow.2
  have d0NoRow : OwnE0 K mg "NoRow" (He.ga K "NoRow") He.veBase := by
    have z := He.exc_ok (c.fact 40 (f := fun K => (He.Fa.exc "NoRow").ok K) rfl)
    exact ⟨z.1, He.glo_ok X G (c.fact 39 (f := fun K => (He.Fa.glo "NoRow").ok K) rfl), z.2.1, z.2.2.1, z.2.2.2⟩
  have ktTooMany : ∃ c, mg "TideError" = some (.ref c) ∧ PySem.W.kitOne K (.ref (He.ga K "TooMany")) (.ref c) = some true := ⟨_, mTE, of_decide_eq_true (c.fact 42 (f := fun K => decide (PySem.W.kitOne K (.ref (He.ga K "TooMany")) (.ref (He.ga K "TideError")) = some true)) rfl)⟩
  obtain ⟨ITooMany, WTooMany, ATooMany, xoTooMany⟩ := xc_ok (P := P) (fld := "many") (fl := (flX 1 21)) X G xP (c.exc 1) (by have h := c.fact 43 (f := fun K => xcB K fileN "TooMany" "many" (flX 1 21)) rfl; rw [← xFile] at h; exact h)
  have ktTwice : ∃ c, mg "TideError" = some (.ref c) ∧ PySem.W.kitOne K (.ref (He.ga K "Twice")) (.ref c) = some true := ⟨_, mTE, of_decide_eq_true (c.fact 44 (f := fun K => decide (PySem.W.kitOne K (.ref (He.ga K "Twice")) (.ref (He.ga K "TideError")) = some true)) rfl)⟩
  have zETwice := He.ba (c.fact 47 (f := fun K => eqE K "Twice" && excB K (He.ga K "Twice") (flX 1 23)) rfl)
  have ETwice : ExC K mg "Twice" (He.ga K "Twice") (flX 1 23) := excB_ok X G (He.eqO_ok zETwice.1) zETwice.2
  have d0Twice : OwnE0 K mg "Twice" (He.ga K "Twice") He.veBase := by
    have z := He.exc_ok (c.fact 46 (f := fun K => (He.Fa.exc "Twice").ok K) rfl)
    exact ⟨z.1, He.glo_ok X G (c.fact 45 (f := fun K => (He.Fa.glo "Twice").ok K) rfl), z.2.1, z.2.2.1, z.2.2.2⟩
  have ktNoPlace : ∃ c, mg "TideError" = some (.ref c) ∧ PySem.W.kitOne K (.ref (He.ga K "NoPlace")) (.ref c) = some true := ⟨_, mTE, of_decide_eq_true (c.fact 48 (f := fun K => decide (PySem.W.kitOne K (.ref (He.ga K "NoPlace")) (.ref (He.ga K "TideError")) = some true)) rfl)⟩
  obtain ⟨INoPlace, WNoPlace, ANoPlace, xoNoPlace⟩ := xc_ok (P := P) (fld := "at") (fl := (flX 0 8)) X G xP (c.exc 2) (by have h := c.fact 49 (f := fun K => xcB K fileN "NoPlace" "at" (flX 0 8)) rfl; rw [← xFile] at h; exact h)
  have ktNoLife : ∃ c, mg "TideError" = some (.ref c) ∧ PySem.W.kitOne K (.ref (He.ga K "NoLife")) (.ref c) = some true := ⟨_, mTE, of_decide_eq_true (c.fact 50 (f := fun K => decide (PySem.W.kitOne K (.ref (He.ga K "NoLife")) (.ref (He.ga K "TideError")) = some true)) rfl)⟩
  obtain ⟨INoLife, WNoLife, ANoLife, xoNoLife⟩ := xc_ok (P := P) (fld := "who") (fl := (flX 0 6)) X G xP (c.exc 3) (by have h := c.fact 51 (f := fun K => xcB K fileN "NoLife" "who" (flX 0 6)) rfl; rw [← xFile] at h; exact h)
  have ktNoReading : ∃ c, mg "TideError" = some (.ref c) ∧ PySem.W.kitOne K (.ref (He.ga K "NoReading")) (.ref c) = some true := ⟨_, mTE, of_decide_eq_true (c.fact 52 (f := fun K => decide (PySem.W.kitOne K (.ref (He.ga K "NoReading")) (.ref (He.ga K "TideError")) = some true)) rfl)⟩
  obtain ⟨INoReading, WNoReading, ANoReading, xoNoReading⟩ := xc_ok (P := P) (fld := "number") (fl := (flX 0 9)) X G xP (c.exc 4) (by have h := c.fact 53 (f := fun K => xcB K fileN "NoReading" "number" (flX 0 9)) rfl; rw [← xFile] at h; exact h)
  have ktEnded : ∃ c, mg "TideError" = some (.ref c) ∧ PySem.W.kitOne K (.ref (He.ga K "Ended")) (.ref c) = some true := ⟨_, mTE, of_decide_eq_true (c.fact 54 (f := fun K => decide (PySem.W.kitOne K (.ref (He.ga K "Ended")) (.ref (He.ga K "TideError")) = some true)) rfl)⟩
  have zEEnded := He.ba (c.fact 57 (f := fun K => eqE K "Ended" && excB K (He.ga K "Ended") (flX 0 2)) rfl)
  have EEnded : ExC K mg "Ended" (He.ga K "Ended") (flX 0 2) := excB_ok X G (He.eqO_ok zEEnded.1) zEEnded.2
  have d0Ended : OwnE0 K mg "Ended" (He.ga K "Ended") He.veBase := by
    have z := He.exc_ok (c.fact 56 (f := fun K => (He.Fa.exc "Ended").ok K) rfl)
    exact ⟨z.1, He.glo_ok X G (c.fact 55 (f := fun K => (He.Fa.glo "Ended").ok K) rfl), z.2.1, z.2.2.1, z.2.2.2⟩
  have ktNotEnded : ∃ c, mg "TideError" = some (.ref c) ∧ PySem.W.kitOne K (.ref (He.ga K "NotEnded")) (.ref c) = some true := ⟨_, mTE, of_decide_eq_true (c.fact 58 (f := fun K => decide (PySem.W.kitOne K (.ref (He.ga K "NotEnded")) (.ref (He.ga K "TideError")) = some true)) rfl)⟩
  have zENotEnded := He.ba (c.fact 61 (f := fun K => eqE K "NotEnded" && excB K (He.ga K "NotEnded") (flX 0 17)) rfl)
  have ENotEnded : ExC K mg "NotEnded" (He.ga K "NotEnded") (flX 0 17) := excB_ok X G (He.eqO_ok zENotEnded.1) zENotEnded.2
  have d0NotEnded : OwnE0 K mg "NotEnded" (He.ga K "NotEnded") He.veBase := by
    have z := He.exc_ok (c.fact 60 (f := fun K => (He.Fa.exc "NotEnded").ok K) rfl)
    exact ⟨z.1, He.glo_ok X G (c.fact 59 (f := fun K => (He.Fa.glo "NotEnded").ok K) rfl), z.2.1, z.2.2.1, z.2.2.2⟩
  have ktHeld : ∃ c, mg "TideError" = some (.ref c) ∧ PySem.W.kitOne K (.ref (He.ga K "Held")) (.ref c) = some true := ⟨_, mTE, of_decide_eq_true (c.fact 62 (f := fun K => decide (PySem.W.kitOne K (.ref (He.ga K "Held")) (.ref (He.ga K "TideError")) = some true)) rfl)⟩
  obtain ⟨IHeld, WHeld, AHeld, xoHeld⟩ := xc_ok (P := P) (fld := "who") (fl := (flX 0 3)) X G xP (c.exc 5) (by have h := c.fact 63 (f := fun K => xcB K fileN "Held" "who" (flX 0 3)) rfl; rw [← xFile] at h; exact h)
  have ktTrimmed : ∃ c, mg "TideError" = some (.ref c) ∧ PySem.W.kitOne K (.ref (He.ga K "Trimmed")) (.ref c) = some true := ⟨_, mTE, of_decide_eq_true (c.fact 64 (f := fun K => decide (PySem.W.kitOne K (.ref (He.ga K "Trimmed")) (.ref (He.ga K "TideError")) = some true)) rfl)⟩
  obtain ⟨ITrimmed, WTrimmed, ATrimmed, xoTrimmed⟩ := xc_ok (P := P) (fld := "at") (fl := (flX 0 22)) X G xP (c.exc 6) (by have h := c.fact 65 (f := fun K => xcB K fileN "Trimmed" "at" (flX 0 22)) rfl; rw [← xFile] at h; exact h)
  have ktWaits : ∃ c, mg "TideError" = some (.ref c) ∧ PySem.W.kitOne K (.ref (He.ga K "Waits")) (.ref c) = some true := ⟨_, mTE, of_decide_eq_true (c.fact 66 (f := fun K => decide (PySem.W.kitOne K (.ref (He.ga K "Waits")) (.ref (He.ga K "TideError")) = some true)) rfl)⟩
  obtain ⟨IWaits, WWaits, AWaits, xoWaits⟩ := xc_ok (P := P) (fld := "number") (fl := (flX 0 24)) X G xP (c.exc 7) (by have h := c.fact 67 (f := fun K => xcB K fileN "Waits" "number" (flX 0 24)) rfl; rw [← xFile] at h; exact h)
  have ktNotAsked : ∃ c, mg "TideError" = some (.ref c) ∧ PySem.W.kitOne K (.ref (He.ga K "NotAsked")) (.ref c) = some true := ⟨_, mTE, of_decide_eq_true (c.fact 68 (f := fun K => decide (PySem.W.kitOne K (.ref (He.ga K "NotAsked")) (.ref (He.ga K "TideError")) = some true)) rfl)⟩
  obtain ⟨INotAsked, WNotAsked, ANotAsked, xoNotAsked⟩ := xc_ok (P := P) (fld := "number") (fl := (flX 0 16)) X G xP (c.exc 8) (by have h := c.fact 69 (f := fun K => xcB K fileN "NotAsked" "number" (flX 0 16)) rfl; rw [← xFile] at h; exact h)
  have ktNoKey : ∃ c, mg "TideError" = some (.ref c) ∧ PySem.W.kitOne K (.ref (He.ga K "NoKey")) (.ref c) = some true := ⟨_, mTE, of_decide_eq_true (c.fact 70 (f := fun K => decide (PySem.W.kitOne K (.ref (He.ga K "NoKey")) (.ref (He.ga K "TideError")) = some true)) rfl)⟩
  obtain ⟨INoKey, WNoKey, ANoKey, xoNoKey⟩ := xc_ok (P := P) (fld := "key") (fl := (flX 0 5)) X G xP (c.exc 9) (by have h := c.fact 71 (f := fun K => xcB K fileN "NoKey" "key" (flX 0 5)) rfl; rw [← xFile] at h; exact h)
  have ktNotSure : ∃ c, mg "TideError" = some (.ref c) ∧ PySem.W.kitOne K (.ref (He.ga K "NotSure")) (.ref c) = some true := ⟨_, mTE, of_decide_eq_true (c.fact 72 (f := fun K => decide (PySem.W.kitOne K (.ref (He.ga K "NotSure")) (.ref (He.ga K "TideError")) = some true)) rfl)⟩
  obtain ⟨INotSure, WNotSure, ANotSure, xoNotSure⟩ := xc_ok (P := P) (fld := "key") (fl := (flX 0 20)) X G xP (c.exc 10) (by have h := c.fact 73 (f := fun K => xcB K fileN "NotSure" "key" (flX 0 20)) rfl; rw [← xFile] at h; exact h)
  have ktNoTaker : ∃ c, mg "TideError" = some (.ref c) ∧ PySem.W.kitOne K (.ref (He.ga K "NoTaker")) (.ref c) = some true := ⟨_, mTE, of_decide_eq_true (c.fact 74 (f := fun K => decide (PySem.W.kitOne K (.ref (He.ga K "NoTaker")) (.ref (He.ga K "TideError")) = some true)) rfl)⟩
  obtain ⟨INoTaker, WNoTaker, ANoTaker, xoNoTaker⟩ := xc_ok (P := P) (fld := "name") (fl := (flX 0 14)) X G xP (c.exc 11) (by have h := c.fact 75 (f := fun K => xcB K fileN "NoTaker" "name" (flX 0 14)) rfl; rw [← xFile] at h; exact h)
  have ktNotOnWire : ∃ c, mg "TideError" = some (.ref c) ∧ PySem.W.kitOne K (.ref (He.ga K "NotOnWire")) (.ref c) = some true := ⟨_, mTE, of_decide_eq_true (c.fact 76 (f := fun K => decide (PySem.W.kitOne K (.ref (He.ga K "NotOnWire")) (.ref (He.ga K "TideError")) = some true)) rfl)⟩
  obtain ⟨INotOnWire, WNotOnWire, ANotOnWire, xoNotOnWire⟩ := xc_ok (P := P) (fld := "number") (fl := (flX 0 19)) X G xP (c.exc 12) (by have h := c.fact 77 (f := fun K => xcB K fileN "NotOnWire" "number" (flX 0 19)) rfl; rw [← xFile] at h; exact h)
  have ktNothingLeft : ∃ c, mg "TideError" = some (.ref c) ∧ PySem.W.kitOne K (.ref (He.ga K "NothingLeft")) (.ref c) = some true := ⟨_, mTE, of_decide_eq_true (c.fact 78 (f := fun K => decide (PySem.W.kitOne K (.ref (He.ga K "NothingLeft")) (.ref (He.ga K "TideError")) = some true)) rfl)⟩
  have zENothingLeft := He.ba (c.fact 81 (f := fun K => eqE K "NothingLeft" && excB K (He.ga K "NothingLeft") (flX 0 18)) rfl)
  have ENothingLeft : ExC K mg "NothingLeft" (He.ga K "NothingLeft") (flX 0 18) := excB_ok X G (He.eqO_ok zENothingLeft.1) zENothingLeft.2
  have d0NothingLeft : OwnE0 K mg "NothingLeft" (He.ga K "NothingLeft") He.veBase := by
    have z := He.exc_ok (c.fact 80 (f := fun K => (He.Fa.exc "NothingLeft").ok K) rfl)
    exact ⟨z.1, He.glo_ok X G (c.fact 79 (f := fun K => (He.Fa.glo "NothingLeft").ok K) rfl), z.2.1, z.2.2.1, z.2.2.2⟩
  have e := hfa.symm.trans m7
  cases e
  have bl := FunD.bindsA (ps := ["script"]) FD7 fun _ _ _ _ _ _ us hl => match us, hl with | [_], _ => rfl
  refine ⟨fd7, fun s v => bl s [v] rfl, fun base _ _ => ?_⟩
  have xNoTable : X0 K mg "NoTable" (He.ga K "NoTable") (flX 1 13) := ⟨d0NoTable, ENoTable.kd, ktNoTable⟩
  have xNoChange : X0 K mg "NoChange" (He.ga K "NoChange") (flX 1 4) := ⟨d0NoChange, ENoChange.kd, ktNoChange⟩
  have xNoStretch : X0 K mg "NoStretch" (He.ga K "NoStretch") (flX 1 12) := ⟨d0NoStretch, ENoStretch.kd, ktNoStretch⟩
  have xNoRows : X0 K mg "NoRows" (He.ga K "NoRows") (flX 1 11) := ⟨d0NoRows, ENoRows.kd, ktNoRows⟩
  have xNoName : X0 K mg "NoName" (He.ga K "NoName") (flX 1 7) := ⟨d0NoName, ENoName.kd, ktNoName⟩
  have xNoText : Xn P w K mg base (He.ga K "NoText") 1 (flX 1 15) := by
    obtain ⟨oc, od, sl, tp, kv, dc, pm, an, ct, lk, hT⟩ := xoNoText.F
    have FX := ok_xNoText (P := P) (w := w) (base := base) (k := 0) lk xoNoText.cd xoNoText.T xoNoText.cW xoNoText.no xoNoText.Z
    exact ⟨⟨_, _, [.none], FX, xoNoText.T, xoNoText.iC, xoNoText.tI, xoNoText.mgC, fun s us X' hl => by
      have l1 : us.length = 1 := by simpa using hl
      match us, l1 with
      | [_], _ => exact bt_dfl X' hT rfl rfl, .cons rfl .nil⟩, ⟨_, _, [], FX, xoNoText.T, xoNoText.iC, xoNoText.tI, xoNoText.mgC, fun s us X' hl => match us, hl with | [_, _], _ => bt_dfl X' hT rfl rfl, .nil⟩, ⟨_, _, FX, xoNoText.T, xoNoText.iC, xoNoText.tI, xoNoText.mgC, ⟨fun s us ws X' l1 l2 => match us, ws, l1, l2 with | [_], [_], _, _ => bt_dfl X' hT rfl rfl, fun r1 r2 => r1.append r2⟩⟩, xoNoText.E.kd, xoNoText.E.xf, xoNoText.no, ktNoText⟩
  have xNoRow : X0 K mg "NoRow" (He.ga K "NoRow") (flX 1 10) := ⟨d0NoRow, ENoRow.kd, ktNoRow⟩
  have xTooMany : Xi P w K mg base "TooMany" "many" (He.ga K "TooMany") 1 (flX 1 21) (spX1 (He.ga K "TooMany") "many") := by
    obtain ⟨oc, od, sl, kv, dc, pm, an, ct, lk⟩ := xoTooMany.F
    have FX := ok_xTooMany (P := P) (w := w) (base := base) (k := 0) lk xoTooMany.cd xoTooMany.T xoTooMany.cW xoTooMany.no xoTooMany.Z
    exact ⟨⟨_, _, [], FX, xoTooMany.T, xoTooMany.iC, xoTooMany.tI, xoTooMany.mgC, .all fun us hl => match us, hl with | [_, _], _ => rfl, .nil⟩, ⟨_, _, FX, xoTooMany.T, xoTooMany.iC, xoTooMany.tI, xoTooMany.mgC, kbn1 fun u w => rfl⟩, xoTooMany.E.kd, xoTooMany.E.xf, xoTooMany.no, ktTooMany⟩
  have xTwice : X0 K mg "Twice" (He.ga K "Twice") (flX 1 23) := ⟨d0Twice, ETwice.kd, ktTwice⟩
  have xNoPlace : Xi P w K mg base "NoPlace" "at" (He.ga K "NoPlace") 1 (flX 0 8) (spX1 (He.ga K "NoPlace") "at") := by
    obtain ⟨oc, od, sl, kv, dc, pm, an, ct, lk⟩ := xoNoPlace.F
    have FX := ok_xNoPlace (P := P) (w := w) (base := base) (k := 0) lk xoNoPlace.cd xoNoPlace.T xoNoPlace.cW xoNoPlace.no xoNoPlace.Z
    exact ⟨⟨_, _, [], FX, xoNoPlace.T, xoNoPlace.iC, xoNoPlace.tI, xoNoPlace.mgC, .all fun us hl => match us, hl with | [_, _], _ => rfl, .nil⟩, ⟨_, _, FX, xoNoPlace.T, xoNoPlace.iC, xoNoPlace.tI, xoNoPlace.mgC, kbn1 fun u w => rfl⟩, xoNoPlace.E.kd, xoNoPlace.E.xf, xoNoPlace.no, ktNoPlace⟩
  have xNoLife : Xi P w K mg base "NoLife" "who" (He.ga K "NoLife") 1 (flX 0 6) (spX1 (He.ga K "NoLife") "who") := by
    obtain ⟨oc, od, sl, kv, dc, pm, an, ct, lk⟩ := xoNoLife.F
    have FX := ok_xNoLife (P := P) (w := w) (base := base) (k := 0) lk xoNoLife.cd xoNoLife.T xoNoLife.cW xoNoLife.no xoNoLife.Z
    exact ⟨⟨_, _, [], FX, xoNoLife.T, xoNoLife.iC, xoNoLife.tI, xoNoLife.mgC, .all fun us hl => match us, hl with | [_, _], _ => rfl, .nil⟩, ⟨_, _, FX, xoNoLife.T, xoNoLife.iC, xoNoLife.tI, xoNoLife.mgC, kbn1 fun u w => rfl⟩, xoNoLife.E.kd, xoNoLife.E.xf, xoNoLife.no, ktNoLife⟩
  have xNoReading : Xi P w K mg base "NoReading" "number" (He.ga K "NoReading") 1 (flX 0 9) (spX1 (He.ga K "NoReading") "number") := by
    obtain ⟨oc, od, sl, kv, dc, pm, an, ct, lk⟩ := xoNoReading.F
    have FX := ok_xNoReading (P := P) (w := w) (base := base) (k := 0) lk xoNoReading.cd xoNoReading.T xoNoReading.cW xoNoReading.no xoNoReading.Z
    exact ⟨⟨_, _, [], FX, xoNoReading.T, xoNoReading.iC, xoNoReading.tI, xoNoReading.mgC, .all fun us hl => match us, hl with | [_, _], _ => rfl, .nil⟩, ⟨_, _, FX, xoNoReading.T, xoNoReading.iC, xoNoReading.tI, xoNoReading.mgC, kbn1 fun u w => rfl⟩, xoNoReading.E.kd, xoNoReading.E.xf, xoNoReading.no, ktNoReading⟩
  have xEnded : X0 K mg "Ended" (He.ga K "Ended") (flX 0 2) := ⟨d0Ended, EEnded.kd, ktEnded⟩
  have xNotEnded : X0 K mg "NotEnded" (He.ga K "NotEnded") (flX 0 17) := ⟨d0NotEnded, ENotEnded.kd, ktNotEnded⟩
  have xHeld : Xi P w K mg base "Held" "who" (He.ga K "Held") 1 (flX 0 3) (spX1 (He.ga K "Held") "who") := by
    obtain ⟨oc, od, sl, kv, dc, pm, an, ct, lk⟩ := xoHeld.F
    have FX := ok_xHeld (P := P) (w := w) (base := base) (k := 0) lk xoHeld.cd xoHeld.T xoHeld.cW xoHeld.no xoHeld.Z
    exact ⟨⟨_, _, [], FX, xoHeld.T, xoHeld.iC, xoHeld.tI, xoHeld.mgC, .all fun us hl => match us, hl with | [_, _], _ => rfl, .nil⟩, ⟨_, _, FX, xoHeld.T, xoHeld.iC, xoHeld.tI, xoHeld.mgC, kbn1 fun u w => rfl⟩, xoHeld.E.kd, xoHeld.E.xf, xoHeld.no, ktHeld⟩
  have xTrimmed : Xi P w K mg base "Trimmed" "at" (He.ga K "Trimmed") 1 (flX 0 22) (spX1 (He.ga K "Trimmed") "at") := by
    obtain ⟨oc, od, sl, kv, dc, pm, an, ct, lk⟩ := xoTrimmed.F
    have FX := ok_xTrimmed (P := P) (w := w) (base := base) (k := 0) lk xoTrimmed.cd xoTrimmed.T xoTrimmed.cW xoTrimmed.no xoTrimmed.Z
    exact ⟨⟨_, _, [], FX, xoTrimmed.T, xoTrimmed.iC, xoTrimmed.tI, xoTrimmed.mgC, .all fun us hl => match us, hl with | [_, _], _ => rfl, .nil⟩, ⟨_, _, FX, xoTrimmed.T, xoTrimmed.iC, xoTrimmed.tI, xoTrimmed.mgC, kbn1 fun u w => rfl⟩, xoTrimmed.E.kd, xoTrimmed.E.xf, xoTrimmed.no, ktTrimmed⟩
  have xWaits : Xi P w K mg base "Waits" "number" (He.ga K "Waits") 1 (flX 0 24) (spX1 (He.ga K "Waits") "number") := by
    obtain ⟨oc, od, sl, kv, dc, pm, an, ct, lk⟩ := xoWaits.F
    have FX := ok_xWaits (P := P) (w := w) (base := base) (k := 0) lk xoWaits.cd xoWaits.T xoWaits.cW xoWaits.no xoWaits.Z
    exact ⟨⟨_, _, [], FX, xoWaits.T, xoWaits.iC, xoWaits.tI, xoWaits.mgC, .all fun us hl => match us, hl with | [_, _], _ => rfl, .nil⟩, ⟨_, _, FX, xoWaits.T, xoWaits.iC, xoWaits.tI, xoWaits.mgC, kbn1 fun u w => rfl⟩, xoWaits.E.kd, xoWaits.E.xf, xoWaits.no, ktWaits⟩
  have xNotAsked : Xi P w K mg base "NotAsked" "number" (He.ga K "NotAsked") 1 (flX 0 16) (spX1 (He.ga K "NotAsked") "number") := by
    obtain ⟨oc, od, sl, kv, dc, pm, an, ct, lk⟩ := xoNotAsked.F
    have FX := ok_xNotAsked (P := P) (w := w) (base := base) (k := 0) lk xoNotAsked.cd xoNotAsked.T xoNotAsked.cW xoNotAsked.no xoNotAsked.Z
    exact ⟨⟨_, _, [], FX, xoNotAsked.T, xoNotAsked.iC, xoNotAsked.tI, xoNotAsked.mgC, .all fun us hl => match us, hl with | [_, _], _ => rfl, .nil⟩, ⟨_, _, FX, xoNotAsked.T, xoNotAsked.iC, xoNotAsked.tI, xoNotAsked.mgC, kbn1 fun u w => rfl⟩, xoNotAsked.E.kd, xoNotAsked.E.xf, xoNotAsked.no, ktNotAsked⟩
  have xNoKey : Xi P w K mg base "NoKey" "key" (He.ga K "NoKey") 1 (flX 0 5) (spX1 (He.ga K "NoKey") "key") := by
    obtain ⟨oc, od, sl, kv, dc, pm, an, ct, lk⟩ := xoNoKey.F
    have FX := ok_xNoKey (P := P) (w := w) (base := base) (k := 0) lk xoNoKey.cd xoNoKey.T xoNoKey.cW xoNoKey.no xoNoKey.Z
    exact ⟨⟨_, _, [], FX, xoNoKey.T, xoNoKey.iC, xoNoKey.tI, xoNoKey.mgC, .all fun us hl => match us, hl with | [_, _], _ => rfl, .nil⟩, ⟨_, _, FX, xoNoKey.T, xoNoKey.iC, xoNoKey.tI, xoNoKey.mgC, kbn1 fun u w => rfl⟩, xoNoKey.E.kd, xoNoKey.E.xf, xoNoKey.no, ktNoKey⟩
  have xNotSure : Xi P w K mg base "NotSure" "key" (He.ga K "NotSure") 1 (flX 0 20) (spX1 (He.ga K "NotSure") "key") := by
    obtain ⟨oc, od, sl, kv, dc, pm, an, ct, lk⟩ := xoNotSure.F
    have FX := ok_xNotSure (P := P) (w := w) (base := base) (k := 0) lk xoNotSure.cd xoNotSure.T xoNotSure.cW xoNotSure.no xoNotSure.Z
    exact ⟨⟨_, _, [], FX, xoNotSure.T, xoNotSure.iC, xoNotSure.tI, xoNotSure.mgC, .all fun us hl => match us, hl with | [_, _], _ => rfl, .nil⟩, ⟨_, _, FX, xoNotSure.T, xoNotSure.iC, xoNotSure.tI, xoNotSure.mgC, kbn1 fun u w => rfl⟩, xoNotSure.E.kd, xoNotSure.E.xf, xoNotSure.no, ktNotSure⟩
  have xNoTaker : Xi P w K mg base "NoTaker" "name" (He.ga K "NoTaker") 1 (flX 0 14) (spXS (He.ga K "NoTaker") "name") := by
    obtain ⟨oc, od, sl, kv, dc, pm, an, ct, lk⟩ := xoNoTaker.F
    have FX := ok_xNoTaker (P := P) (w := w) (base := base) (k := 0) lk xoNoTaker.cd xoNoTaker.T xoNoTaker.cW xoNoTaker.no xoNoTaker.Z
    exact ⟨⟨_, _, [], FX, xoNoTaker.T, xoNoTaker.iC, xoNoTaker.tI, xoNoTaker.mgC, .all fun us hl => match us, hl with | [_, _], _ => rfl, .nil⟩, ⟨_, _, FX, xoNoTaker.T, xoNoTaker.iC, xoNoTaker.tI, xoNoTaker.mgC, kbn1 fun u w => rfl⟩, xoNoTaker.E.kd, xoNoTaker.E.xf, xoNoTaker.no, ktNoTaker⟩
  have xNotOnWire : Xi P w K mg base "NotOnWire" "number" (He.ga K "NotOnWire") 1 (flX 0 19) (spX1 (He.ga K "NotOnWire") "number") := by
    obtain ⟨oc, od, sl, kv, dc, pm, an, ct, lk⟩ := xoNotOnWire.F
    have FX := ok_xNotOnWire (P := P) (w := w) (base := base) (k := 0) lk xoNotOnWire.cd xoNotOnWire.T xoNotOnWire.cW xoNotOnWire.no xoNotOnWire.Z
    exact ⟨⟨_, _, [], FX, xoNotOnWire.T, xoNotOnWire.iC, xoNotOnWire.tI, xoNotOnWire.mgC, .all fun us hl => match us, hl with | [_, _], _ => rfl, .nil⟩, ⟨_, _, FX, xoNotOnWire.T, xoNotOnWire.iC, xoNotOnWire.tI, xoNotOnWire.mgC, kbn1 fun u w => rfl⟩, xoNotOnWire.E.kd, xoNotOnWire.E.xf, xoNotOnWire.no, ktNotOnWire⟩
  have xNothingLeft : X0 K mg "NothingLeft" (He.ga K "NothingLeft") (flX 0 18) := ⟨d0NothingLeft, ENothingLeft.kd, ktNothingLeft⟩
  have dT : Own P w K mg base "_law_take" ["bag", "man1"] 1 spTakeW := ⟨_, _, ok_take (k := 0) F2, m2, F2.kp, b2⟩
  have dB : Own P w K mg base "_law_bag" ["script", "k"] 1 (spBag K) := ⟨_, _, ok_bag (k := 0) F1 N, m1, F1.kp, b1⟩
  have dNm : Own P w K mg base "_law_name" ["bag"] 2 spName := ⟨_, _, ok_name (k := 1) F3 N dT (by decide), m3, F3.kp, b3⟩
  have dKi : Own P w K mg base "_law_kinds" ["e"] 1 (spKinO K mg) := ⟨_, _, ok_kinds (k := 0) F4 N, m4, F4.kp, b4⟩
  have dFd : Own P w K mg base "_law_field" ["e"] 1 (spFdO K mg) := ⟨_, _, ok_field (k := 0) F5 N, m5, F5.kp, b5⟩
  have dMr : Own P w K mg base "_law_made_right" ["e", "due"] 2 (spMr K mg) := ⟨_, _, ok_mr (k := 1) F6 N dKi (by decide), m6, F6.kp, b6⟩
  exact ok_law (k := 4) F7 N dT (by decide) dB (by decide) dNm (by decide) dMr (by decide) dFd (by decide) (by decide) xNoTable xNoChange xNoStretch xNoRows xNoName xNoText xNoRow xTooMany xTwice xNoPlace xNoLife xNoReading xEnded xNotEnded xHeld xTrimmed xWaits xNotAsked xNoKey xNotSure xNoTaker xNotOnWire xNothingLeft
abbrev R : PySem.W.OpenRow := PySem.W.OpenLaw.row PySem.Challenge.rw_tidecopy_k49_refusals_apart
abbrev hk : PySem.W.Hook := hookM 5 hfs hfn hxs
def ob (s : PySem.W.SharedT) : AlM := obsMG 5 hfs hfn hxs (HandSHeadRun.getT s)
theorem ob_eq (s : PySem.W.SharedT) : ob s = hk.obs s.abs := obsMG_eq (HandSHeadRun.getT_eq s)
def loose : List Str := (["TideError", "ToldError", "AskedError", "NoTable", "NoChange", "NoStretch", "NoRows", "NoName", "NoText", "NoRow", "TooMany", "Twice", "NoPlace", "NoLife", "NoReading", "Ended", "NotEnded", "Held", "Trimmed", "Waits", "NotAsked", "NoKey", "NotSure", "NoTaker", "NotOnWire", "NothingLeft", "_law_bag", "_law_take", "_law_name", "_law_kinds", "_law_field", "_law_made_right"] : List String).map Str.ofString
end K49
set_option maxHeartbeats 0
namespace K49
open PySem L2 PyProof.Rows Tc
noncomputable abbrev endAt (w : World) (os : OsState) : Option PySem.W.SharedT := HandSHeadRun.endF (HandSHeadRun.stepQ (HandSHeadRun.denQ HandSHeadRun.tabQ) R.prog w) 20000 R.prog w os
theorem runA (w : World) (os : OsState) : (endAt w os).map (fun s => (HandSHeadRun.looksF R.prog (PySem.W.boot_heap w.params) s.abs, HandSHeadRun.seenQ (PySem.W.view R.prog [34]) loose (importedModules R.prog.main.body) (fun s => PySem.W.xlAt (PySem.W.view R.prog [34]) [] s && PySem.W.recOk R.toRowW.records s) s.abs)) = some (true, PySem.W.openGood (PySem.W.view R.prog [34]) loose) := by kernel_rfl
theorem runB (w : World) (os : OsState) : (endAt w os).map (fun s => obsMG 5 hfs1 hfn1 hxs (HandSHeadRun.getT s)) = some (valM hfn1 hxs) := by kernel_rfl
theorem runC (w : World) (os : OsState) : (endAt w os).map (fun s => obsMG 5 hfs2 hfn2 [] (HandSHeadRun.getT s)) = some (valM hfn2 []) := by kernel_rfl
theorem run (w : World) : HandSHeadRun.RunEq R (PySem.W.view R.prog [34]) hk ob 20000 loose w := run_parts (runA w) (runB w) (runC w)
end K49
open PySem PySem.W PyProof.Rows
theorem PySem.Challenge.cw_tidecopy_k49_refusals_apart_holds : PySem.Challenge.rw_tidecopy_k49_refusals_apart.Holds := by
  w_on; o_law
  refine HandSHeadRun.head_any (r := OpenLaw.row PySem.Challenge.rw_tidecopy_k49_refusals_apart) (q := view (OpenLaw.row PySem.Challenge.rw_tidecopy_k49_refusals_apart).prog [34]) (H := K49.hk) (ob := K49.ob) (M := 20000) (loose := K49.loose) (d := HandSHeadRun.topDef (OpenLaw.row PySem.Challenge.rw_tidecopy_k49_refusals_apart).prog 34) (kwd := []) K49.ob_eq
    (by kernel_rfl) (fun s => by kernel_rfl) K49.run (by kernel_rfl) (by kernel_rfl) (by kernel_rfl) (by rfl) (by first | assumption | decide +kernel) (by decide +kernel) ⟨rfl, rfl, rfl, rfl, rfl, by decide +kernel⟩ ?hw ?hc
  case hw => w_witness2
  case hc =>
    refine L2.walk_ofE (l := PySem.Challenge.rw_tidecopy_k49_refusals_apart) (n := 63) (k := 5) (x := "script") (CX := L2.CX0) rfl (by decide) (by kernel_rfl) ⟨rfl, by decide, by decide⟩ ?F (fun _ _ _ _ z => z)
    intro w mg fa h Y G hmg0
    obtain ⟨K, KX, c⟩ := Y
    have hmg : mg ("law" : PySem.Str) = some (.ref fa) := by
      have e : (HandSHeadRun.topDef (OpenLaw.row PySem.Challenge.rw_tidecopy_k49_refusals_apart).prog 34).name = ("law" : PySem.Str) := by kernel_rfl
      rw [← e]
      exact hmg0
    obtain ⟨fd, hb, hF⟩ := K49.all_mk (P := (PySem.Challenge.rw_tidecopy_k49_refusals_apart).prog) (w := w) KX G hmg rfl (by kernel_rfl) c
    exact ⟨K, fd, K49.spLaw K, KX, hb, fun H a ns hl _ hS => ⟨a, ns, rfl, hS, hl, fun _ => rfl⟩, hF⟩
