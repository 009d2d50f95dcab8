import PyProof.Rows.All
import Wide.All
import OpenK.AllK
import Wide.FinOn
import PyProof.NeKinds
import HandS.ForMost
import HandS.IsInst
import HandS.Conv
import HandS.Codes
import HandS.Evl
import HandS.Strs
import HandS.SetFor
import HandS.SortInts
import HandS.Steps
import PyProof.Rows.IntBool
import PyProof.CallStr
import PyProof.FitsInt
import PyProof.EqKinds
import HandS.Style
import HandS.TupMul
import HandS.SetBool
import HandS.DictComp
import KE.KDictPairs
import HandS.WordsDict
import HandS.Iter
import HandS.SortKw
import KE.GoesEnumKw
import HandS.More
import HandS.ExcInit
import HandS.Nested
import KE.KExcSuper
import HandS.HotCalls
import HandS.ExcField
import HandS.WordsExc
import KE.KExcIs
import HandS.FStr
import HandS.Text
import HandS.ExcInitHot
import HandS.OwnEq
import HandS.OwnIter
import HandS.Dict
import HandS.Defaults
import HandS.CallSlots
import HandS.TupAny
import HandS.Ends
import HandS.Words
import HandS.Head0
import HandS.Head1
import HandS.Head2
import HandS.HeadEnd
import HandS.HeadHook1
import HandS.HeadHook2
import HandS.Star
import HandS.Walk
import PySem.Challenge.RW_tidecopy_k18_whole_the_log_tells_the_tab
set_option Elab.async false
set_option linter.all false
set_option maxRecDepth 100000
namespace Tc
open PySem L2
/-- a def of the text under its name, with its promise -/
def Own (P : Program) (w : World) (K : PySem.W.Frag) (mg : Str → Option Value) (base : Heap) (x : Str) (ps : List Str) (k : Nat) (sp : Sp) : Prop :=
  ∃ (f : Addr) (fd : FuncData), FnOk P w K mg base CX0 k f fd ps sp ∧ mg x = some (.ref f) ∧ PySem.W.keepIn K (.ref f) = true ∧ Binds K fd ps []
theorem pe_own {X : Cx} {x : Str} {ps : List Str} {k j : Nat} {sp : Sp} {e : Expr} {es : List Expr} {t : TA} {p pos : Pos} (d : Own X.prog X.w X.K X.mg X.base x ps k sp) (hr : Room j X.A) (hj : k ≤ j) (hg : Gl X x) (ha : PA X (e :: es) t)
    (he : starEach (e :: es) X.env = (false, eval e X.env) :: starEach es X.env := by rfl) (hdb : (x == ("__debug__" : Str)) = false := by decide) (hpl : (backTo pos (starEach es X.env)).any (·.1) = false := by rfl) :
    PE X (.Call (.Name x p) (e :: es) [] pos) (tCall sp [] E0 t) := by
  obtain ⟨f, fd, F, hm, hk, hb⟩ := d
  exact pe_call F (hr.mono hj) hg hm hk hb .nil pass0 ha hdb he hpl

/-! ### one object hidden: the bag of draws, which changes -/
def hid (b : Addr) (H : Hp) : Hp := fun a => if a = b then none else H a
theorem hid_same (b : Addr) (H : Hp) : Same (hid b H) H := fun a o h => by
  unfold hid at h
  split at h
  · cases h
  · exact h
theorem hid_at {b a : Addr} {H : Hp} {o : HO} (h : H a = some o) (n : a ≠ b) : hid b H a = some o := by
  unfold hid
  rw [if_neg n]
  exact h
theorem hid_self (b : Addr) (H : Hp) : hid b H b = none := by
  unfold hid
  rw [if_pos rfl]
theorem hid_upd (b : Addr) (H : Hp) (o : HO) : hid b (upd H b o) = hid b H := by
  funext a
  unfold hid
  by_cases h : a = b
  · rw [if_pos h, if_pos h]
  · rw [if_neg h, if_neg h, upd_ne h]
theorem hid_new {b : Addr} {H : Hp} (h : H b = none) : hid b H = H := by
  funext a
  unfold hid
  by_cases e : a = b
  · rw [if_pos e, e, h]
  · rw [if_neg e]
/-- the bag at b, and all else as it was or more -/
def Bag (H : Hp) (b : Addr) : Prop := ∃ x y : Int, H b = some (.lst [.int x, .int y]) ∧ 0 ≤ x ∧ 0 ≤ y ∧ y < 2147483648
structure Fr (b : Addr) (H H' : Hp) : Prop where
  bag : Bag H' b
  sm : Same (hid b H) (hid b H')
theorem Fr.refl {b : Addr} {H : Hp} (h : Bag H b) : Fr b H H := ⟨h, Same.refl _⟩
theorem Fr.trans {b : Addr} {H H1 H2 : Hp} (x : Fr b H H1) (y : Fr b H1 H2) : Fr b H H2 := ⟨y.bag, x.sm.trans y.sm⟩
theorem Bag.ne {b p : Addr} {H : Hp} (h : Bag H b) (n : H p = none) : p ≠ b := fun e => by
  obtain ⟨x, y, h, _⟩ := h
  rw [e, h] at n
  cases n
theorem Fr.new {b p : Addr} {H : Hp} {o : HO} (h : Bag H b) (n : H p = none) : Fr b H (upd H p o) := by
  have hp := h.ne n
  refine ⟨?_, fun a u e => ?_⟩
  · obtain ⟨x, y, h, r⟩ := h
    exact ⟨x, y, by rw [upd_ne hp.symm]; exact h, r⟩
  · have e1 := hid_same b H a u e
    have e2 : a ≠ b := fun z => by
      rw [z, hid_self] at e
      cases e
    exact hid_at (by rw [upd_ne (ne_of_none e1 n)]; exact e1) e2
/-- an object made on the way may change -/
theorem Fr.mut {b p : Addr} {H H' : Hp} {o : HO} (x : Fr b H H') (n : H p = none) (hb : p ≠ b) : Fr b H (upd H' p o) := by
  refine ⟨?_, fun a u e => ?_⟩
  · obtain ⟨x1, y, h, r⟩ := x.bag
    exact ⟨x1, y, by rw [upd_ne hb.symm]; exact h, r⟩
  · have e1 := hid_same b H a u e
    have e3 := x.sm a u e
    have e4 := hid_same b H' a u e3
    have e2 : a ≠ b := fun z => by
      rw [z, hid_self] at e
      cases e
    exact hid_at (by rw [upd_ne (ne_of_none e1 n)]; exact e4) e2
theorem Fr.at {b a : Addr} {H H' : Hp} {o : HO} (x : Fr b H H') (h : H a = some o) (n : a ≠ b) : H' a = some o := hid_same b H' a o (x.sm a o (hid_at h n))
theorem Fr.free {b p : Addr} {H H' : Hp} (x : Fr b H H') (hb : Bag H b) (h : H' p = none) : H p = none := by
  have hp : p ≠ b := x.bag.ne h
  cases e : H p with
  | none => rfl
  | some o =>
    rw [x.at e hp] at h
    cases h

/-! ### data -/
mutual
theorem dp_same {K : PySem.W.Frag} {H H' : Hp} (e : Same H H') : ∀ (d : PyData) (v : V), Dp K H v d → Dp K H' v d
  | _, _, .non => .non
  | _, _, .bl b => .bl b
  | _, _, .int i => .int i
  | _, _, .str x => .str x
  | _, _, .lst h r => .lst (Evl.ex_l e h) (dps_same e _ _ r)
  | _, _, .tup h r => .tup (Evl.ex_t e h) (dps_same e _ _ r)
theorem dps_same {K : PySem.W.Frag} {H H' : Hp} (e : Same H H') : ∀ (ds : List PyData) (vs : List V), DpAll K H vs ds → DpAll K H' vs ds
  | _, _, .nil => .nil
  | _, _, .cons h r => .cons (dp_same e _ _ h) (dps_same e _ _ r)
end
theorem dps_len {K : PySem.W.Frag} {H : Hp} : ∀ {vs : List V} {ds : List PyData}, DpAll K H vs ds → vs.length = ds.length
  | _, _, .nil => rfl
  | _, _, .cons _ r => congrArg (· + 1) (dps_len r)
theorem dps_at {K : PySem.W.Frag} {H : Hp} : ∀ {vs : List V} {ds : List PyData} {i : Nat} {v : V}, DpAll K H vs ds → vs[i]? = some v → ∃ d, ds[i]? = some d ∧ Dp K H v d
  | _, _, 0, _, .cons h r, e => ⟨_, rfl, by cases e; exact h⟩
  | _, _, i + 1, _, .cons h r, e => dps_at (i := i) r e
theorem dps_at' {K : PySem.W.Frag} {H : Hp} : ∀ {vs : List V} {ds : List PyData} {i : Nat} {d : PyData}, DpAll K H vs ds → ds[i]? = some d → ∃ v, vs[i]? = some v ∧ Dp K H v d
  | _, _, 0, _, .cons h r, e => ⟨_, rfl, by cases e; exact h⟩
  | _, _, i + 1, _, .cons h r, e => dps_at' (i := i) r e
theorem dps_app {K : PySem.W.Frag} {H : Hp} : ∀ {vs ws : List V} {ds es : List PyData}, DpAll K H vs ds → DpAll K H ws es → DpAll K H (vs ++ ws) (ds ++ es)
  | _, _, _, _, .nil, q => q
  | _, _, _, _, .cons h r, q => .cons h (dps_app r q)
theorem dps_take {K : PySem.W.Frag} {H : Hp} : ∀ {vs : List V} {ds : List PyData} (n : Nat), DpAll K H vs ds → DpAll K H (vs.take n) (ds.take n)
  | _, _, 0, _ => .nil
  | _, _, n + 1, .nil => .nil
  | _, _, n + 1, .cons h r => .cons h (dps_take n r)
theorem dps_drop {K : PySem.W.Frag} {H : Hp} : ∀ {vs : List V} {ds : List PyData} (n : Nat), DpAll K H vs ds → DpAll K H (vs.drop n) (ds.drop n)
  | _, _, 0, r => r
  | _, _, n + 1, .nil => .nil
  | _, _, n + 1, .cons h r => dps_drop n r
theorem dps_set {K : PySem.W.Frag} {H : Hp} : ∀ {vs : List V} {ds : List PyData} {v : V} {d : PyData} (n : Nat), DpAll K H vs ds → Dp K H v d → DpAll K H (vs.set n v) (ds.set n d)
  | _, _, _, _, _, .nil, _ => .nil
  | _, _, _, _, 0, .cons h r, q => .cons q r
  | _, _, _, _, n + 1, .cons h r, q => .cons h (dps_set n r q)
theorem dps_mem {K : PySem.W.Frag} {H : Hp} : ∀ {vs : List V} {ds : List PyData} {v : V}, DpAll K H vs ds → v ∈ vs → ∃ d ∈ ds, Dp K H v d
  | _, _, _, .cons h r, m => by
    rcases List.mem_cons.mp m with e | m
    · exact ⟨_, List.mem_cons_self, e ▸ h⟩
    · obtain ⟨d, a, b⟩ := dps_mem r m
      exact ⟨d, List.mem_cons_of_mem _ a, b⟩
/-! ### kinds -/
def tyN : PyData → String
  | .none => "NoneType"
  | .bool _ => "bool"
  | .int _ => "int"
  | .str _ => "str"
  | .list _ => "list"
  | .tuple _ => "tuple"
  | .dict _ => "dict"
theorem ty_tup {K : PySem.W.Frag} {H : Hp} {a : Addr} {xs : List V} (h : SqT K H a xs) : TyX K H (.ref a) (.type "tuple") := by
  rcases h with (h | ⟨o, h⟩) | ⟨o, its, n, hk, hc, _⟩
  · exact .base (.tup h)
  · exact .fTuple h
  · exact .kTuple hk hc
theorem ty_lst {K : PySem.W.Frag} {H : Hp} {a : Addr} {xs : List V} (h : SqL K H a xs) : TyX K H (.ref a) (.type "list") := by
  rcases h with (h | ⟨o, h⟩) | ⟨o, its, n, hk, hc, _⟩
  · exact .base (.lst h)
  · exact .base (.frz h)
  · exact .kList hk hc
theorem ty_dp {K : PySem.W.Frag} {H : Hp} {v : V} {d : PyData} (h : Dp K H v d) : TyX K H v (.type (tyN d)) := by
  cases h with
  | non => exact .base .non
  | bl b => exact .base (.bl b)
  | int i => exact .base (.int i)
  | str z => exact .base (.str z)
  | lst h r => exact ty_lst h
  | tup h r => exact ty_tup h
theorem dp_nodict {K : PySem.W.Frag} {H : Hp} {v : V} {d : PyData} (h : Dp K H v d) : ∀ kv, d ≠ .dict kv := by
  cases h <;> intro kv z <;> cases z
/-- isinstance of data -/
theorem isi {K : PySem.W.Frag} {H : Hp} {v : V} {d : PyData} {c : String} {b : Bool} {Q : VK} (h : Dp K H v d) (k : kitB (tyN d) c = some b) (q : Q (.bl b) H) : rIsi K [v, .ty c] H Q :=
  ⟨v, .ty c, .type (tyN d), .type c, b, rfl, .ty c, ty_dp h, kit_ty k, q⟩
def isInt : PyData → Bool
  | .int _ => true | .bool _ => true | _ => false
def isBool : PyData → Bool
  | .bool _ => true | _ => false
def isTup : PyData → Bool
  | .tuple _ => true | _ => false
def isLst : PyData → Bool
  | .list _ => true | _ => false
def isStr : PyData → Bool
  | .str _ => true | _ => false
theorem kit_int {d : PyData} (n : ∀ kv, d ≠ .dict kv) : kitB (tyN d) "int" = some (isInt d) := by
  cases d with
  | none => exact (by decide +kernel : kitB "NoneType" "int" = some false)
  | bool _ => exact (by decide +kernel : kitB "bool" "int" = some true)
  | int _ => exact (by decide +kernel : kitB "int" "int" = some true)
  | str _ => exact (by decide +kernel : kitB "str" "int" = some false)
  | list _ => exact (by decide +kernel : kitB "list" "int" = some false)
  | tuple _ => exact (by decide +kernel : kitB "tuple" "int" = some false)
  | dict kv => exact absurd rfl (n kv)
theorem kit_bool {d : PyData} (n : ∀ kv, d ≠ .dict kv) : kitB (tyN d) "bool" = some (isBool d) := by
  cases d with
  | none => exact (by decide +kernel : kitB "NoneType" "bool" = some false)
  | bool _ => exact (by decide +kernel : kitB "bool" "bool" = some true)
  | int _ => exact (by decide +kernel : kitB "int" "bool" = some false)
  | str _ => exact (by decide +kernel : kitB "str" "bool" = some false)
  | list _ => exact (by decide +kernel : kitB "list" "bool" = some false)
  | tuple _ => exact (by decide +kernel : kitB "tuple" "bool" = some false)
  | dict kv => exact absurd rfl (n kv)
theorem kit_tuple {d : PyData} (n : ∀ kv, d ≠ .dict kv) : kitB (tyN d) "tuple" = some (isTup d) := by
  cases d with
  | none => exact (by decide +kernel : kitB "NoneType" "tuple" = some false)
  | bool _ => exact (by decide +kernel : kitB "bool" "tuple" = some false)
  | int _ => exact (by decide +kernel : kitB "int" "tuple" = some false)
  | str _ => exact (by decide +kernel : kitB "str" "tuple" = some false)
  | list _ => exact (by decide +kernel : kitB "list" "tuple" = some false)
  | tuple _ => exact (by decide +kernel : kitB "tuple" "tuple" = some true)
  | dict kv => exact absurd rfl (n kv)
theorem kit_list {d : PyData} (n : ∀ kv, d ≠ .dict kv) : kitB (tyN d) "list" = some (isLst d) := by
  cases d with
  | none => exact (by decide +kernel : kitB "NoneType" "list" = some false)
  | bool _ => exact (by decide +kernel : kitB "bool" "list" = some false)
  | int _ => exact (by decide +kernel : kitB "int" "list" = some false)
  | str _ => exact (by decide +kernel : kitB "str" "list" = some false)
  | list _ => exact (by decide +kernel : kitB "list" "list" = some true)
  | tuple _ => exact (by decide +kernel : kitB "tuple" "list" = some false)
  | dict kv => exact absurd rfl (n kv)
theorem kit_str {d : PyData} (n : ∀ kv, d ≠ .dict kv) : kitB (tyN d) "str" = some (isStr d) := by
  cases d with
  | none => exact (by decide +kernel : kitB "NoneType" "str" = some false)
  | bool _ => exact (by decide +kernel : kitB "bool" "str" = some false)
  | int _ => exact (by decide +kernel : kitB "int" "str" = some false)
  | str _ => exact (by decide +kernel : kitB "str" "str" = some true)
  | list _ => exact (by decide +kernel : kitB "list" "str" = some false)
  | tuple _ => exact (by decide +kernel : kitB "tuple" "str" = some false)
  | dict kv => exact absurd rfl (n kv)
/-! ### a list beside the empty one -/
def rNeE (K : PySem.W.Frag) : R2 := fun x y H Q => ∃ (a b : Addr) (xs : List V), x = .ref a ∧ y = .ref b ∧ SqL K H a xs ∧ SqL K H b [] ∧ Q (.bl (!xs.isEmpty)) H
theorem op_neE {X : Cx} (hu : X.A.units + 64 < cLine) : OpR X (compareOp .NotEq) (rNeE X.K) := by
  intro pins s σ H x y v u Q I rx ry h
  obtain ⟨a, b, xs, rfl, rfl, ha, hb, q⟩ := h
  cases xs with
  | nil => exact op_neD hu pins s σ H _ _ v u Q I rx ry ⟨.list [], .list [], .lst ha .nil, .lst hb .nil, rfl, rfl, q⟩
  | cons z zs =>
    cases (show v = Value.ref a from rx)
    cases (show u = Value.ref b from ry)
    obtain ⟨i1, r1, l1, _⟩ := I.list ha
    obtain ⟨i2, r2, l2, _⟩ := I.list hb
    have h1 : (i1.toArray.size != i2.toArray.size) = true := by
      have e1 := r1.length
      have e2 := r2.length
      simp only [List.size_toArray]
      rw [← e1, ← e2]
      rfl
    exact SeqAt.RcNeAt.lists_lengths l1.isList l2.isList h1 (by omega) _ _ _ _ ⟨.bl true, H, I, rfl, q⟩
/-! ### evaluation of tests over data -/
section
open Evl
variable {K : PySem.W.Frag} {σ : L2.St} {H : Hp} {ta tb tc : TE} {x y z v : V} {d : PyData}
theorem rc_isi {c : String} {b : Bool} (h : Dp K H v d) (k : kitB (tyN d) c = some b) : RC (rIsi K) [v, .ty c] H (.bl b) := fun H1 e _ q => isi (dp_same e _ _ h) k (q H1 (Ex.refl H1))
theorem ev_isi {c : String} {b : Bool} (ha : Ev ta σ H v) (h : Dp K H v d) (k : kitB (tyN d) c = some b) : Ev (tCB (rIsi K) (tCons ta (tCons (tC (.ty c)) tNil))) σ H (.bl b) := ev_cb (ea_cons ha (ea_cons ev_c ea_nil)) (rc_isi h k)
theorem ev_int (ha : Ev ta σ H v) (h : Dp K H v d) : Ev (tCB (rIsi K) (tCons ta (tCons (tC (.ty "int")) tNil))) σ H (.bl (isInt d)) := ev_isi ha h (kit_int (dp_nodict h))
theorem ev_bool (ha : Ev ta σ H v) (h : Dp K H v d) : Ev (tCB (rIsi K) (tCons ta (tCons (tC (.ty "bool")) tNil))) σ H (.bl (isBool d)) := ev_isi ha h (kit_bool (dp_nodict h))
theorem ev_tuple (ha : Ev ta σ H v) (h : Dp K H v d) : Ev (tCB (rIsi K) (tCons ta (tCons (tC (.ty "tuple")) tNil))) σ H (.bl (isTup d)) := ev_isi ha h (kit_tuple (dp_nodict h))
theorem ev_str (ha : Ev ta σ H v) (h : Dp K H v d) : Ev (tCB (rIsi K) (tCons ta (tCons (tC (.ty "str")) tNil))) σ H (.bl (isStr d)) := ev_isi ha h (kit_str (dp_nodict h))
theorem ev_chain {p p' : Int → Int → Bool} {i j k : Int} (ha : Ev ta σ H (.int i)) (hb : Ev tb σ H (.int j)) (hc : Ev tc σ H (.int k)) :
    Ev (tChain (rI0 fun i j => .bl (p i j)) (rI0 fun i j => .bl (p' i j)) ta tb tc) σ H (.bl (p i j && p' j k)) := fun H1 e Q q =>
  ha H1 e _ fun H2 e2 => hb H2 (e.trans e2) _ fun H3 e3 => ⟨i, j, rfl, rfl, p i j, rfl, by
    cases h : p i j with
    | true => exact hc H3 ((e.trans e2).trans e3) _ fun H4 e4 => ⟨j, k, rfl, rfl, by
        rw [h] at q
        exact q H4 ((e2.trans e3).trans e4)⟩
    | false =>
      rw [h] at q
      exact q H3 (e2.trans e3)⟩
/-- a def that answers a truth of data -/
def spTold (K : PySem.W.Frag) (f : PyData → Bool) : Sp := fun vs H Q _ => ∃ (v : V) (d : PyData), vs = [v] ∧ Dp K H v d ∧ ∀ H', Ex H H' → Q (.bl (f d)) H'
theorem spv_told {f : PyData → Bool} (h : Dp K H v d) : SpV (spTold K f) [v] H (.bl (f d)) := fun H1 e Q q E => ⟨v, d, rfl, dp_same e _ _ h, fun H' e' => q H' e'⟩
theorem ev_told {f : PyData → Bool} {E : XK} (ha : Ev ta σ H v) (h : Dp K H v d) : Ev (tCall (spTold K f) [] E (tCons ta tNil)) σ H (.bl (f d)) := ev_call (ea_cons ha ea_nil) (spv_told h)
theorem ev_ixT {p : Addr} {xs : List V} {j : Nat} (ha : Ev ta σ H (.ref p)) (h : SqT K H p xs) (hj : xs[j]? = some v) : Ev (tOp (rIxT K) ta (tC (.int (j : Int)))) σ H v := ev_op ha ev_c (rv_ixT h (atI_nat hj))
theorem ev_lenT {p : Addr} {xs : List V} (ha : Ev ta σ H (.ref p)) (h : SqT K H p xs) : Ev (tCB (rLenS K) (tCons ta tNil)) σ H (.int (xs.length : Int)) := fun H1 e Q q =>
  ha H1 e _ fun H2 e2 => ⟨p, xs, rfl, Or.inr (ex_t (e.trans e2) h), q H2 e2⟩
theorem ev_ix0 {p : Addr} {xs : List V} (ha : Ev ta σ H (.ref p)) (h : SqT K H p (v :: xs)) : Ev (tOp (rIxT K) ta (tC (.int 0))) σ H v := ev_ixT (j := 0) ha h rfl
theorem ev_ix1 {p : Addr} {xs : List V} (ha : Ev ta σ H (.ref p)) (h : SqT K H p (x :: v :: xs)) : Ev (tOp (rIxT K) ta (tC (.int 1))) σ H v := ev_ixT (j := 1) ha h rfl
theorem two_of {α : Type} {l : List α} (h : l.length = 2) : ∃ x y, l = [x, y] := match l, h with | [x, y], _ => ⟨x, y, rfl⟩
theorem ev_glob {i : Int} (q : True) : Ev (tC (.int i)) σ H (.int i) := ev_c
end
end Tc
/-! sets of ints out of a list, and their sorted list, of any length -/
namespace Tc
open PySem L2 PyProof.Rows
section
variable {P : Program} {w : World} {A : Around} {E : Value → Shared → Prop} {s : Shared}
/-- the empty set as the model lays it -/
abbrev noneSet (w : World) : Obj := { cls := .type "set", dict := none, data := .set #[] 0 (.fresh 0 0 (!w.params.followText "set-order")) }
abbrev withSet (w : World) (s : Shared) : Shared := { s with heap := s.heap.push (noneSet w) }
/-- what is known behind set(..) of ints -/
def Made (w : World) (s : Shared) (ns : List Int) (s₂ : Shared) : Prop := ∃ (h' : Heap) (tk c : Nat), s₂ = { s with heap := h', toks := tk } ∧ SetR w h' s.heap.objs.size (fun j => decide (j ∈ ns)) c ∧ c ≤ ns.length ∧ ∀ b o, s.heap.get? b = some o → h'.get? b = some o
set_option maxHeartbeats 8000000 in
theorem call_set_ints {l : Addr} {items : Array Value} {ns : List Int} {Q : Value → Shared → Prop} (hh : A.handled = none) (hl : s.heap.IsList l items) (hit : IntsAre items.toList ns) (hb : ns.length + 1 < scanBound)
    (h : ∀ s₂, Made w s ns s₂ → Q (.ref s.heap.objs.size) s₂) : wpAny (model P w) A (call (.type "set") [.ref l]) Q E s := by
  have hisz : items.size = ns.length := by rw [← Array.length_toList]; exact IntsAre.length hit
  obtain ⟨⟨ocls, odict, odata, oslots⟩, hol, hcl, nl, hdl⟩ := hl
  simp only at hcl hdl
  subst hcl; subst hdl
  have lS : l < s.heap.objs.size := Heap.lt_size hol
  have hS : (withSet w s).heap.get? s.heap.objs.size = some (noneSet w) := Heap.get?_push_size _ rfl
  have hT : (withSet w s).TypeIs (.ref s.heap.objs.size) "set" := ⟨_, hS, rfl⟩
  have hol' := Heap.get?_push_of_some (noneSet w) hol
  have hl1 : (withSet w s).heap.IsList l items := ⟨_, hol', rfl, nl, rfl⟩
  obtain ⟨c0, tl0, p1⟩ := F.called_set.mro
  have p2 := F.called_set.made
  have p3 := F.called_set.sub
  have p4 := F.called_set.notType
  have p5 := F.called_set.canCreate
  have p6 := F.typeCall_set_1 (.ref l)
  have p7 := F.called_set.init.lookup
  have p8 := F.called_set.init.bind (.ref s.heap.objs.size)
  refine wpAny_call (codeAny_of_tree (show wpAny _ _ (callAny (.type "set") _) _ _ _ from wpAny_pure ⟨Code.quiet_builtin _ (by decide +kernel), codeAny_builtin F.entry_type_call ?_⟩))
  rw [Around.under_plain (weight_type_call_type "set" [.ref l] []) rfl]
  repeat (any_goals (first | assumption | wp_step))
  refine codeAny_mono (code_set_led1 (.ref l) (E := E) (Q₁ := fun obj s₁ => obj = .ref s.heap.objs.size ∧ s₁ = withSet w s) ⟨rfl, rfl⟩) fun r s₁ hr => ?_
  rcases r with e | fl
  · exact hr
  cases fl with
  | ret obj =>
    obtain ⟨rfl, rfl⟩ := hr
    repeat (any_goals (first | assumption | wp_step))
    refine codeAny_mono (codeAny_call_builtin (R := wants (fun r s₂ => r = .none ∧ Made w s ns s₂) E) F.called_set.init.plain F.entry_set_init (check_set_init_1 hT ?_)) fun r₂ s₂ hr₂ => ?_
    · have q1 := F.sub_list_set
      have q2 := F.sub_list_frozenset
      have q3 : (Value.type "list" == Value.type "dict") = false := by decide
      unfold Builtin.«set.__init__» noKeywords Builtin.Frozenset.updateFrom
      generalize hPI : pyIter = PI
      wp_walk
      subst hPI
      refine wpAny_pyIter_list hl1 (wpAny_bind (wpAny_runValue ?_))
      have z1 : (withSet w s).heap.objs.size = s.heap.objs.size + 1 := Heap.size_push ..
      have n1 : l ≠ (withSet w s).heap.objs.size := by
        rw [z1]
        exact Nat.ne_of_lt (Nat.lt_succ_of_lt lS)
      have n2 : s.heap.objs.size ∉ [(withSet w s).heap.objs.size, l] := by
        rw [z1]
        intro m
        simp only [List.mem_cons, List.not_mem_nil, or_false] at m
        rcases m with m | m
        · exact absurd m (Nat.ne_of_lt (Nat.lt_succ_self _))
        · exact absurd m (Nat.ne_of_gt lS)
      have each : ∀ (i : Nat) (v : Value), items[i]? = some v → ∃ (k : Int) (tok : Tok), ns[i]? = some k ∧ v = .int k tok := fun i v at_ => by
        have lt : i < ns.length := hisz ▸ (Array.getElem?_eq_some_iff.mp at_).1
        obtain ⟨tok, rfl⟩ := IntsAre.int_at hit i v (Array.getElem?_toList ▸ at_)
        exact ⟨ns[i], tok, List.getElem?_eq_getElem lt, by simp [lt]⟩
      refine set_update_ints ((Walks.list (by simp [hh]) _ l n1 items).toS) s.heap.objs.size n2 ns hisz hb each (items.size - 0) 0 _ (by omega) (Nat.zero_le _)
        ⟨⟨_, Heap.get?_push_size _ rfl, rfl, rfl⟩, hl1.push _⟩ ⟨0, Nat.le_refl 0, setR_new_at (Heap.get?_push_of_some _ hS)⟩ fun s' c' hm hc' hS' => ?_
      obtain ⟨h', gen', drw', tk', os1⟩ := s'
      cases (show gen' = s.gens from hm.gens)
      cases (show drw' = s.drawn from hm.drawn)
      cases (show os1 = s.os from hm.os)
      refine wpAny_pure (show wpAny _ _ (ret Value.none) _ _ _ from wpAny_pure ⟨rfl, h', tk', c', rfl, hS', by omega, fun b o e => ?_⟩)
      have b0 : b < s.heap.objs.size := Heap.lt_size e
      refine hm.heap b o (fun m => ?_) (Heap.get?_push_of_some _ (Heap.get?_push_of_some _ e))
      simp only [List.mem_cons, List.not_mem_nil, or_false] at m
      rcases m with m | m
      · exact absurd m (Nat.ne_of_lt b0)
      · exact absurd (m.trans z1) (Nat.ne_of_lt (Nat.lt_succ_of_lt b0))
    · rcases r₂ with e | f2
      · exact hr₂
      cases f2 with
      | ret r =>
        obtain ⟨rfl, m⟩ := hr₂
        repeat (any_goals (first | assumption | wp_step))
        exact h _ m
      | _ => exact hr₂.elim
  | _ => exact hr.elim
end
/-! ### the rules -/
section
variable {X : Cx}
/-- set(xs), xs a list of ints -/
def rSetL (K : PySem.W.Frag) (w : World) : List V → Hp → VK → Prop := fun xs H Q => ∃ (l : Addr) (ns : List Int), xs = [V.ref l] ∧ SqL K H l (ns.map V.int) ∧ ns.length ≤ 4000 ∧
  ∀ (p : Addr) (c : Nat), H p = none → c ≤ ns.length → Q (.ref p) (upd H p (SetO w p (fun j => decide (j ∈ ns)) c))
theorem cr_setL (hc : X.calm = true) : CallR X (.type "set") (rSetL X.K X.w) := by
  intro pins s σ H vs us Q I r ⟨l, ns, e0, hs, hz, q⟩
  subst e0
  rw [Vals.ref1 r]
  have ⟨its, rv, hl, _⟩ := I.list hs
  refine call_set_ints (ns := ns) (I.ok.hd hc) hl.isList rv.ints (by unfold scanBound; omega) fun s₂ m => ?_
  obtain ⟨h', tk, c, rfl, R, hc', k⟩ := m
  exact ⟨.ref _, upd H s.heap.objs.size (SetO X.w s.heap.objs.size (fun j => decide (j ∈ ns)) c), I.laid (t' := tk) k (Nat.le_refl _) (setO_new R), rfl, q _ c (I.hok.fresh (Nat.le_refl _)) hc'⟩
end
end Tc
/-! the sorted list of a set of ints, of any length -/
namespace Tc
open PySem L2 PyProof.Rows
section
variable {P : Program} {w : World} {A : Around} {E : Value → Shared → Prop} {s : Shared} {a : Addr}
set_option maxHeartbeats 9000000 in
/-- sorted(a set of ints): the road of the library's rule for fewer than 64 of them, with its sort of ints of any number -/
theorem sorted_any {S : Int → Bool} {n : Nat} {Q : Value → Shared → Prop} (R : SetR w s.heap a S n) (free : A.handled = none)
    (fin : ∀ s' p (out : List Value) (c : Nat) (ns : List Int), (∀ b o, s.heap.get? b = some o → s'.heap.get? b = some o) → s'.gens = s.gens → s'.os = s.os → s.heap.objs.size ≤ p →
      s'.heap.get? p = some (seqObj "list" out.toArray c) → IntsAre out ns → ns.Pairwise (· < ·) → (∀ k, k ∈ ns ↔ S k = true) → ns.length = n → ns.length ≤ sizeLine → Q (.ref p) s') : wpAny (model P w) A (call (.builtin "sorted") [.ref a]) Q E s := by
  obtain ⟨ob, ents, _, _, at1, exact1, dat, isI, once, mem, room, fits, count, ring, laid⟩ := R
  have many : ∀ {l : List Value}, l.Perm (ents.toList.map (·.2)) → l.length = n := fun pm => (pm.length_eq.trans (by simp)).trans count
  have size : n ≤ sizeLine := count ▸ fits_of_scanBound room
  refine Calls.call_function_entry kind_sorted plain_sorted entry_sorted (args_sorted1 _) (show wpAny _ _ (Builtin.«sorted» _) _ _ _ from ?_)
  refine wpAny_bind (m := checkCount "sorted" 1 1 _) (wpAny_pure (wpAny_bind (collect_set (A := A.in1) free ⟨ob, at1, exact1.1, dat⟩ fits room ring laid fun t vs keep old gens os pm => ?_)))
  /- the items, as ints -/
  have are : IntsAre vs (vs.map Builtin.Re.reRawOf) := ints_of vs fun v m => by
    have ⟨x, mx, ex⟩ := List.mem_map.mp (pm.mem_iff.mp m)
    have ⟨i, tok, hx, _⟩ := isI x mx
    exact ⟨i, tok, ex ▸ hx⟩
  have these : (vs.map Builtin.Re.reRawOf).Perm (ents.toList.map keyOf) := (pm.map Builtin.Re.reRawOf).trans (by rw [List.map_map]; exact .refl _)
  refine wpAny_bind (wpAny_newList ?_ ((many pm).symm ▸ size))
  generalize hL : t.heap.push (seqObj "list" vs.toArray 0) = L
  have new : L.get? t.heap.objs.size = some (seqObj "list" vs.toArray 0) := hL ▸ Heap.get?_push_size _ rfl
  refine wpAny_bind (wpAny_holding (wpAny_call_entry slot_list_sort ⟨_, new, rfl⟩ entry_list_sort (SrtO.list_sort_ord SrtO.swo_int new ((many pm).symm ▸ size) (fun lt => SrtO.ints_sortable are lt) fun out o1 o2 => ⟨_, rfl, ?_⟩) (args_list_sort _)))
  obtain ⟨r1, r2, r3⟩ := SrtO.ints_out are o1 o2
  have ⟨c, hc⟩ := sortedHeap_at (vs := vs) (out := out.toArray) new
  have all := r2.trans these
  have len := all.length_eq.trans ((List.length_map _).trans (Array.length_toList.trans count))
  refine wpAny_pure ⟨_, rfl, fin _ t.heap.objs.size out c _ (fun b u e => ?_) gens os old hc r1 (L2.lt_of_le_nodup _ r3 (all.nodup_iff.mpr once)) (fun k => all.mem_iff.trans (mem k).symm) len (len.symm ▸ size)⟩
  have lt := Heap.lt_size (keep b u e)
  show (sortedHeap L t.heap.objs.size vs out.toArray).get? b = some u
  rw [sortedHeap_old (Nat.ne_of_lt lt) (hL ▸ size_push' t.heap _ ▸ Nat.lt_succ_of_lt lt), ← hL]
  exact Heap.get?_push_of_some _ (keep b u e)
end
section
variable {X : Cx}
/-- sorted(s), s a set of ints: a new list, rising, of just its members -/
def rSortedSetA (w : World) : List V → Hp → VK → Prop := fun vs H Q => ∃ (a : Addr) (S : Int → Bool) (n : Nat), vs = [V.ref a] ∧ H a = some (SetO w a S n) ∧ ∀ (ms : List Int) (p : Addr), ms.Pairwise (· < ·) → (∀ k : Int, k ∈ ms ↔ S k = true) → ms.length = n → H p = none → Q (.ref p) (upd H p (.lst (ms.map V.int)))
theorem cr_sortedSetA (hc : X.calm = true) : CallR X (.builtin "sorted") (rSortedSetA X.w) := by
  intro pins s0 σ H vs us Q I r hyp
  obtain ⟨a, S, n, rfl, ha, q⟩ := hyp
  rw [Vals.ref1 r]
  refine sorted_any (setO_get I ha) (I.ok.hd hc) fun t p out c ms keep gens os far at2 are rise mem cnt size => ?_
  have none0 := I.hok.fresh far
  have ok : ObjOk X.prog X.w (upd H p (.lst (ms.map V.int))) t.heap p (.lst (ms.map V.int)) := ⟨(List.length_map (f := V.int)).symm ▸ size, out, c, vals_of_ints are, at2⟩
  have inv := I.call (g' := t.gens) (d' := t.drawn) (t' := t.toks) (ch := []) (Un.laid keep far none0) (I.hok.laid keep far ok) (gens ▸ I.bare) (fun _ z => nomatch z)
  have same : t = { s0 with heap := t.heap, gens := t.gens, drawn := t.drawn, toks := t.toks } := by
    obtain ⟨t1, t2, t3, t4, t5⟩ := t
    cases os
    rfl
  exact same ▸ ⟨.ref p, _, inv, rfl, q ms p rise mem cnt none0⟩
end
end Tc
namespace Tc
open PySem L2 Evl
section
variable {K : PySem.W.Frag} {σ : L2.St} {H : Hp} {ta tb tc te : TE} {x y z v : V} {d : PyData}
theorem s_next {D : Ends} {σ : L2.St} {H : Hp} (h : D.nx σ H) : tNext D σ H := h
theorem s_seq {D : Ends} {σ : L2.St} {H : Hp} {t u : TS} (h : t { D with nx := u D } σ H) : tSeq t u D σ H := h
theorem ev_l0 {p : Addr} {xs : List V} (ha : Ev ta σ H (.ref p)) (h : SqL K H p (v :: xs)) : Ev (tOp (rIxL K) ta (tC (.int 0))) σ H v := ev_op ha ev_c (rv_ixL h (atI_nat (j := 0) rfl))
theorem ev_l1 {p : Addr} {xs : List V} (ha : Ev ta σ H (.ref p)) (h : SqL K H p (x :: v :: xs)) : Ev (tOp (rIxL K) ta (tC (.int 1))) σ H v := ev_op ha ev_c (rv_ixL h (atI_nat (j := 1) rfl))
theorem ex_hid {b : Addr} {H H1 : Hp} (e : Ex H H1) : Same (hid b H) (hid b H1) := fun a u h => by
  have n : a ≠ b := fun z => by
    rw [z, hid_self] at h
    cases h
  exact hid_at (e a u (hid_same b H a u h)) n
theorem Fr.ex {b : Addr} {H H1 : Hp} (h : Bag H b) (e : Ex H H1) : Fr b H H1 := by
  obtain ⟨x, y, hb, r⟩ := h
  exact ⟨⟨x, y, e b _ hb, r⟩, ex_hid e⟩
theorem Fr.put {b : Addr} {H H1 : Hp} {x y : Int} (e : Ex H H1) (hx : 0 ≤ x) (hy : 0 ≤ y) (hz : y < 2147483648) : Fr b H (upd H1 b (.lst [.int x, .int y])) := by
  refine ⟨⟨x, y, upd_same, hx, hy, hz⟩, ?_⟩
  rw [hid_upd]
  exact ex_hid e
theorem rv_mod {i j : Int} (h : 0 < j) : RV (rI (fun _ j => 0 < j) fun i j => .int (i % j)) (.int i) (.int j) H (.int (i % j)) := fun H1 _ _ q => ⟨i, j, rfl, rfl, h, q H1 (Ex.refl H1)⟩
theorem rv_fdiv {i j : Int} (h : 0 < j) (h2 : j < 1073741824) : RV (rI CDiv fun i j => .int (i / j)) (.int i) (.int j) H (.int (i / j)) := fun H1 _ _ q => ⟨i, j, rfl, rfl, ⟨h, h2⟩, q H1 (Ex.refl H1)⟩
theorem rv_mul {i j : Int} (h : CMul i j) : RV (rI CMul fun i j => .int (i * j)) (.int i) (.int j) H (.int (i * j)) := fun H1 _ _ q => ⟨i, j, rfl, rfl, h, q H1 (Ex.refl H1)⟩
theorem rv_pow {i j : Int} (h : CPow i j) : RV (rI CPow fun i j => .int (i ^ j.toNat)) (.int i) (.int j) H (.int (i ^ j.toNat)) := fun H1 _ _ q => ⟨i, j, rfl, rfl, h, q H1 (Ex.refl H1)⟩
theorem rv_add {i j : Int} : RV (rI0 fun i j => .int (i + j)) (.int i) (.int j) H (.int (i + j)) := rv_I0
theorem rv_sub {i j : Int} : RV (rI0 fun i j => .int (i - j)) (.int i) (.int j) H (.int (i - j)) := rv_I0
theorem ev_abs {i : Int} (ha : Ev ta σ H (.int i)) : Ev (tCB (fun xs H Q => ∃ i, xs = [.int i] ∧ Q (.int (if i < 0 then -i else i)) H) (tCons ta tNil)) σ H (.int (if i < 0 then -i else i)) :=
  ev_cb (ea_cons ha ea_nil) fun H1 _ _ q => ⟨i, rfl, q H1 (Ex.refl H1)⟩
theorem ev_lx {p : Addr} {xs : List V} {j : Nat} (ha : Ev ta σ H (.ref p)) (hb : Ev tb σ H (.int (j : Int))) (h : SqL K H p xs) (hj : xs[j]? = some v) : Ev (tOp (rIxL K) ta tb) σ H v := ev_op ha hb (rv_ixL h (atI_nat hj))
/-- a new bag -/
def spBag (K : PySem.W.Frag) : Sp := fun vs H Q _ => ∃ (a : Addr) (ns : List Int) (k : Nat), vs = [.ref a, .int (k : Int)] ∧ SqL K H a (ns.map V.int) ∧ k ≤ 1000 ∧ ∀ b H', H b = none → Ex H H' → Bag H' b → Q (.ref b) H'
/-- a draw below m -/
def spTake : Sp := fun vs H Q _ => ∃ (b : Addr) (m : Int), vs = [.ref b, .int m] ∧ Bag H b ∧ 0 < m ∧ m < 1073741824 ∧ ∀ r H', Fr b H H' → 0 ≤ r → r < m → Q (.int r) H'
end
end Tc
namespace Tc
open PySem L2 Evl
section
variable {K : PySem.W.Frag} {σ : L2.St} {H : Hp} {ta tb tc te : TE} {t : TT} {x y z v : V} {d : PyData}
/-- a list comprehension over a tuple, changing nothing -/
theorem el_lcT {a : Addr} {xs : List V} {tl : TE} {j : Nat} {vs : List Nat} (f : Nat → Bool) (u : Nat → V) (h : Ev tl σ H (.ref a)) (hx : SqT K H a xs) (hz : xs.length ≤ 40000) (hw : ∀ x, wipe ((wipe σ vs).set j (some x)) vs = wipe σ vs)
    (ht : ∀ (i : Nat) (x : V) H1, Ex H H1 → xs[i]? = some x → EvT t ((wipe σ vs).set j (some x)) H1 (f i)) (he : ∀ (i : Nat) (x : V) H1, Ex H H1 → xs[i]? = some x → f i = true → Ev te ((wipe σ vs).set j (some x)) H1 (u i)) :
    EvL (tLc (iTup K tl) (gName j) t te vs) σ H (given xs.length f u) := fun H0 e Q q => h H0 e _ fun H1 e1 => ⟨a, rfl, ⟨xs, ex_t (e.trans e1) hx⟩, fun Dl hD =>
  lc_tup (xs := xs) (Cw H1 f u Dl) ⟨hD, Ex.new hD, upd_same⟩ (fun i H' _ p => ex_t ((e.trans e1).trans p.2.1) hx) (fun i x H' hi p => ⟨hw x, cw_turn p (by have := (List.getElem?_eq_some_iff.mp hi).1; omega) (ht i x H1 (e.trans e1) hi) (fun hf => he i x H1 (e.trans e1) hi hf)⟩)
    (fun H' ⟨n0, x0, d0⟩ => q Dl H' (fresh_back e1 n0) (e1.trans x0) d0)⟩
theorem et_yes : EvT tYes σ H true := fun H1 _ _ q => q H1 (Ex.refl H1)
theorem given_all (n : Nat) (u : Nat → V) : given n (fun _ => true) u = (List.range n).map u := by
  unfold given
  rw [List.filter_eq_self.mpr fun _ _ => rfl]
theorem given_empty (n : Nat) (f : Nat → Bool) (u : Nat → V) : (given n f u).isEmpty = true ↔ ∀ i, i < n → f i = false := by
  unfold given
  rw [List.isEmpty_iff, List.map_eq_nil_iff, List.filter_eq_nil_iff]
  constructor
  · intro h i hi
    cases e : f i with
    | true => exact absurd e (h i (List.mem_range.mpr hi))
    | false => rfl
  · intro h i hi
    rw [h i (List.mem_range.mp hi)]
    exact Bool.false_ne_true
/-- two rising lists of the same members are one -/
theorem rising_one : ∀ (a b : List Int), a.Pairwise (· < ·) → b.Pairwise (· < ·) → (∀ k, k ∈ a ↔ k ∈ b) → a = b
  | [], [], _, _, _ => rfl
  | [], y :: b, _, _, h => absurd ((h y).mpr List.mem_cons_self) (by simp)
  | x :: a, [], _, _, h => absurd ((h x).mp List.mem_cons_self) (by simp)
  | x :: a, y :: b, ha, hb, h => by
    obtain ⟨a1, a2⟩ := List.pairwise_cons.mp ha
    obtain ⟨b1, b2⟩ := List.pairwise_cons.mp hb
    have e : x = y := by
      rcases List.mem_cons.mp ((h x).mp List.mem_cons_self) with e | m
      · exact e
      · rcases List.mem_cons.mp ((h y).mpr List.mem_cons_self) with e | m2
        · exact e.symm
        · have p1 := b1 x m
          have p2 := a1 y m2
          omega
    subst e
    refine congrArg (x :: ·) (rising_one a b a2 b2 fun k => ⟨fun m => ?_, fun m => ?_⟩)
    · rcases List.mem_cons.mp ((h k).mp (List.mem_cons_of_mem _ m)) with e | m2
      · have := a1 k m
        omega
      · exact m2
    · rcases List.mem_cons.mp ((h k).mpr (List.mem_cons_of_mem _ m)) with e | m2
      · have := b1 k m
        omega
      · exact m2
/-- sorted(set(xs)) of ints -/
theorem el_sortset {w : World} {ns ms : List Int} (ha : EvL ta σ H (ns.map V.int)) (hl : ns.length ≤ 4000) (hm : ∀ l : List Int, l.Pairwise (· < ·) → (∀ k, k ∈ l ↔ k ∈ ns) → l = ms) :
    EvL (tCB (rSortedSetA w) (tCons (tCB (rSetL K w) (tCons ta tNil)) tNil)) σ H (ms.map V.int) := fun H1 e Q q =>
  ha H1 e _ fun p H2 hp e2 h2 => ⟨p, ns, rfl, sq_of h2, hl, fun s c hs hc => ⟨s, _, c, rfl, upd_same, fun l r hp1 hm1 hn hr => by
    have e3 := hm l hp1 fun k => by rw [hm1 k, decide_eq_true_eq]
    subst e3
    exact q r _ (fresh_back (e2.trans (Ex.new hs)) hr) ((e2.trans (Ex.new hs)).trans (Ex.new hr)) upd_same⟩⟩
theorem el_sortsetV {w : World} {a : Addr} {ns ms : List Int} (ha : Ev ta σ H (.ref a)) (hs : SqL K H a (ns.map V.int)) (hl : ns.length ≤ 4000) (hm : ∀ l : List Int, l.Pairwise (· < ·) → (∀ k, k ∈ l ↔ k ∈ ns) → l = ms) :
    EvL (tCB (rSortedSetA w) (tCons (tCB (rSetL K w) (tCons ta tNil)) tNil)) σ H (ms.map V.int) := fun H1 e Q q =>
  ha H1 e _ fun H2 e2 => ⟨a, ns, rfl, ex_l (e.trans e2) hs, hl, fun s c hs hc => ⟨s, _, c, rfl, upd_same, fun l r hp1 hm1 hn hr => by
    have e3 := hm l hp1 fun k => by rw [hm1 k, decide_eq_true_eq]
    subst e3
    exact q r _ (fresh_back (e2.trans (Ex.new hs)) hr) ((e2.trans (Ex.new hs)).trans (Ex.new hr)) upd_same⟩⟩
theorem dps_ints {ns : List Int} : DpAll K H (ns.map V.int) (ns.map PyData.int) := by
  induction ns with
  | nil => exact .nil
  | cons n ns ih => exact .cons (.int n) ih
theorem eqv_ints : ∀ a b : List Int, PyData.eqvAll (a.map PyData.int) (b.map PyData.int) = decide (a = b)
  | [], [] => rfl
  | [], y :: b => by simp [PyData.eqvAll]
  | x :: a, [] => by simp [PyData.eqvAll]
  | x :: a, y :: b => by
    rw [List.map_cons, List.map_cons, PyData.eqvAll, eqv_ints a b]
    simp [PyData.eqv]
    rfl
theorem shaped_ints (a : List Int) : SeqAt.shaped (.list (a.map PyData.int)) = true := by
  have h : ∀ a : List Int, PyData.canLayAll0 (a.map PyData.int) = true ∧ PyData.depthAll (a.map PyData.int) = 0 := by
    intro a
    induction a with
    | nil => exact ⟨rfl, rfl⟩
    | cons n a ih => exact ⟨by rw [List.map_cons, PyData.canLayAll0, ih.1]; rfl, by rw [List.map_cons, PyData.depthAll, ih.2]; rfl⟩
  unfold SeqAt.shaped
  rw [PyData.canLay0, (h a).1, PyData.depth, (h a).2]
  rfl
end
end Tc
/-! data made beside a bag of draws -/
namespace Tc
open PySem L2 Evl
/-- sizes of data: c counts how often it was changed, n how deep it is -/
def gd (c : Nat) : Nat → PyData → Bool
  | _, .none => true
  | _, .bool _ => true
  | _, .int i => decide (i.natAbs ≤ 10 ^ 31 + 1000 * c)
  | _, .str z => decide (z.length ≤ 100 * 3 ^ c)
  | n + 1, .list ds => decide (ds.length ≤ 1100 + c) && ds.all (gd c n)
  | n + 1, .tuple ds => decide (ds.length ≤ 1100 + c) && ds.all (gd c n)
  | _, _ => false
theorem gd_n {c : Nat} : ∀ (n : Nat) (d : PyData), gd c n d = true → gd c (n + 1) d = true
  | _, .none, _ => rfl
  | _, .bool _, _ => rfl
  | 0, .int i, h => h
  | n + 1, .int i, h => h
  | 0, .str i, h => h
  | n + 1, .str i, h => h
  | 0, .list ds, h => by cases h
  | 0, .tuple ds, h => by cases h
  | 0, .dict ds, h => by cases h
  | n + 1, .dict ds, h => by cases h
  | n + 1, .list ds, h => by
    rw [gd, Bool.and_eq_true, List.all_eq_true] at h ⊢
    exact ⟨h.1, fun d m => gd_n n d (h.2 d m)⟩
  | n + 1, .tuple ds, h => by
    rw [gd, Bool.and_eq_true, List.all_eq_true] at h ⊢
    exact ⟨h.1, fun d m => gd_n n d (h.2 d m)⟩
theorem gd_c {c : Nat} : ∀ (n : Nat) (d : PyData), gd c n d = true → gd (c + 1) n d = true
  | _, .none, _ => by rw [gd]
  | _, .bool _, _ => by rw [gd]
  | 0, .int i, h => decide_eq_true (by have := of_decide_eq_true (p := i.natAbs ≤ 10 ^ 31 + 1000 * c) h; omega)
  | n + 1, .int i, h => decide_eq_true (by have := of_decide_eq_true (p := i.natAbs ≤ 10 ^ 31 + 1000 * c) h; omega)
  | 0, .str z, h => decide_eq_true (by have := of_decide_eq_true (p := z.length ≤ 100 * 3 ^ c) h; rw [Nat.pow_succ]; omega)
  | n + 1, .str z, h => decide_eq_true (by have := of_decide_eq_true (p := z.length ≤ 100 * 3 ^ c) h; rw [Nat.pow_succ]; omega)
  | 0, .list ds, h => by cases h
  | 0, .tuple ds, h => by cases h
  | 0, .dict ds, h => by cases h
  | n + 1, .dict ds, h => by cases h
  | n + 1, .list ds, h => by
    rw [gd, Bool.and_eq_true, List.all_eq_true, decide_eq_true_eq] at h ⊢
    exact ⟨by omega, fun d m => gd_c n d (h.2 d m)⟩
  | n + 1, .tuple ds, h => by
    rw [gd, Bool.and_eq_true, List.all_eq_true, decide_eq_true_eq] at h ⊢
    exact ⟨by omega, fun d m => gd_c n d (h.2 d m)⟩
theorem gd_le {c n m : Nat} {d : PyData} (h : gd c n d = true) (hm : n ≤ m) : gd c m d = true := by
  induction hm with
  | refl => exact h
  | step _ ih => exact gd_n _ _ ih
theorem gd_lc {c e n : Nat} {d : PyData} (h : gd c n d = true) (hm : c ≤ e) : gd e n d = true := by
  induction hm with
  | refl => exact h
  | step _ ih => exact gd_c _ _ ih
theorem gd_tup {c n : Nat} {ds : List PyData} : gd c (n + 1) (.tuple ds) = true ↔ ds.length ≤ 1100 + c ∧ ∀ d ∈ ds, gd c n d = true := by
  rw [gd, Bool.and_eq_true, List.all_eq_true, decide_eq_true_eq]
theorem gd_lst {c n : Nat} {ds : List PyData} : gd c (n + 1) (.list ds) = true ↔ ds.length ≤ 1100 + c ∧ ∀ d ∈ ds, gd c n d = true := by
  rw [gd, Bool.and_eq_true, List.all_eq_true, decide_eq_true_eq]
section
variable {b : Addr} {K : PySem.W.Frag} {σ : L2.St} {H : Hp} {ta tb tc te : TE} {t : TT} {x y z v : V} {d : PyData}
theorem dpt_new {p : Addr} {vs : List V} {ds : List PyData} (hb : Bag H b) (hp : H p = none) (h : DpAll K (hid b H) vs ds) : Dp K (hid b (upd H p (.tup vs))) (.ref p) (.tuple ds) :=
  .tup (st_of (hid_at upd_same (hb.ne hp))) (dps_same (Fr.new hb hp).sm _ _ h)
theorem fr_back {b p : Addr} {H H1 : Hp} (e : Fr b H H1) (hp : H1 p = none) : H p = none ∨ p = b := by
  by_cases h : p = b
  · exact .inr h
  · cases e1 : H p with
    | none => exact .inl rfl
    | some o =>
      rw [e.at e1 h] at hp
      cases hp
theorem fr_back' {b p : Addr} {H H1 : Hp} (e : Fr b H H1) (hp : H1 p = none) : H p = none := by
  rcases fr_back e hp with h | h
  · exact h
  · exact absurd h (e.bag.ne hp)
end
end Tc
namespace Tc
open PySem L2 Evl
section
variable {b : Addr} {K : PySem.W.Frag} {σ : L2.St} {H : Hp} {ta tb tc te : TE} {t : TT} {x y z v : V} {d : PyData} {Q : VK} {E : XK}
theorem take_of {ta : TA} {m : Int} (hB : Bag H b) (ha : EvA ta σ H [.ref b, .int m]) (h0 : 0 < m) (h1 : m < 1073741824) (q : ∀ r H', Fr b H H' → 0 ≤ r → r < m → Q (.int r) H') : tCall spTake [] E ta σ H Q :=
  ha H (Ex.refl H) _ fun H1 e => ⟨b, m, rfl, (Fr.ex hB e).bag, h0, h1, fun r H' fr => q r H' ((Fr.ex hB e).trans fr)⟩
theorem el_cat {xs ys : List V} (ha : EvL ta σ H xs) (hb : EvL tb σ H ys) (hl : xs.length + ys.length ≤ 100000) : EvL (tOp rCat ta tb) σ H (xs ++ ys) := fun H1 e Q q =>
  ha H1 e _ fun p H2 hp e2 h2 => hb H2 (e.trans e2) _ fun r H3 hr e3 h3 => ⟨p, r, xs, ys, rfl, rfl, e3 p _ h2, h3, sz_of hl, fun s hs => q s _ (fresh_back (e2.trans e3) hs) ((e2.trans e3).trans (Ex.new hs)) upd_same⟩
theorem el_is {xs ys : List V} (h : EvL te σ H xs) (e : xs = ys) : EvL te σ H ys := e ▸ h
/-- an item of a new list by a draw -/
theorem item_new {xs : List V} {tb : TE} (ha : EvL ta σ H xs) (hB : Bag H b) (h : ∀ H1, Fr b H H1 → ∀ Q : VK, (∀ r H', Fr b H1 H' → 0 ≤ r → r < (xs.length : Int) → Q (.int r) H') → tb σ H1 Q) (q : ∀ v H', Fr b H H' → v ∈ xs → Q v H') : tOp (rIxL K) ta tb σ H Q :=
  ha H (Ex.refl H) _ fun p H1 hp e h1 => h H1 (Fr.ex hB e) _ fun r H2 f2 h0 h3 => by
    obtain ⟨n, rfl⟩ : ∃ n : Nat, r = (n : Int) := ⟨r.toNat, by omega⟩
    have hlt : n < xs.length := by omega
    have hpb : p ≠ b := hB.ne hp
    exact ⟨p, xs, n, xs[n], rfl, rfl, sq_of (f2.at h1 hpb), atI_nat (List.getElem?_eq_getElem hlt), q _ _ ((Fr.ex hB e).trans f2) (List.getElem_mem hlt)⟩
/-- keys of a table -/
def spKeys : Sp := fun vs H Q _ => ∃ b : Addr, vs = [.ref b] ∧ Bag H b ∧ ∀ l (ks : List Int) H', Fr b H H' → H l = none → l ≠ b → H' l = some (.lst (ks.map V.int)) → (∀ k ∈ ks, 0 ≤ k ∧ k < 1000) → ks.length ≤ 1000 → Q (.ref l) H'
end
end Tc
namespace Tc
open PySem L2 Evl
theorem same_hid {D : Addr} {H H' : Hp} (e : Same H H') : Same (hid D H) (hid D H') := fun a u h => by
  have n : a ≠ D := fun z => by
    rw [z, hid_self] at h
    cases h
  exact hid_at (e a u (hid_same D H a u h)) n
theorem hid_upd2 {b D : Addr} (H : Hp) (o : HO) (n : D ≠ b) : hid D (hid b (upd H D o)) = hid D (hid b H) := by
  funext a
  unfold hid
  by_cases h : a = D
  · rw [if_pos h, if_pos h]
  · rw [if_neg h, if_neg h]
    by_cases h2 : a = b
    · rw [if_pos h2, if_pos h2]
    · rw [if_neg h2, if_neg h2, upd_ne h]
/-- a list at D that collects data, beside a bag at b -/
structure Col (b : Addr) (K : PySem.W.Frag) (g : PyData → Bool) (H : Hp) (D : Addr) (i : Nat) (H' : Hp) : Prop where
  fr : Fr b H H'
  new : H D = none
  ne : D ≠ b
  ex : ∃ (vs : List V) (ds : List PyData), H' D = some (.lst vs) ∧ DpAll K (hid D (hid b H')) vs ds ∧ vs.length ≤ i ∧ ∀ d ∈ ds, g d = true
section
variable {b D : Addr} {K : PySem.W.Frag} {g : PyData → Bool} {H H' H4 : Hp} {i : Nat} {y : V} {d : PyData}
theorem Col.start (hB : Bag H b) (hD : H D = none) : Col b K g H D 0 (upd H D (.lst [])) := ⟨Fr.new hB hD, hD, hB.ne hD, [], [], upd_same, .nil, Nat.le_refl _, fun d m => by simp at m⟩
theorem Col.skip (c : Col b K g H D i H') (f : Fr b H' H4) : Col b K g H D (i + 1) H4 := by
  obtain ⟨vs, ds, h1, h2, h3, h4⟩ := c.ex
  exact ⟨c.fr.trans f, c.new, c.ne, vs, ds, f.at h1 c.ne, dps_same (same_hid f.sm) _ _ h2, by omega, h4⟩
theorem Col.push (c : Col b K g H D i H') (f : Fr b H' H4) (hy : Dp K (hid D (hid b H4)) y d) (hg : g d = true) (hi : i < 10000) : ∃ acc, H4 D = some (.lst acc) ∧ acc.length < sizeLine ∧ Col b K g H D (i + 1) (upd H4 D (.lst (acc ++ [y]))) := by
  obtain ⟨vs, ds, h1, h2, h3, h4⟩ := c.ex
  refine ⟨vs, f.at h1 c.ne, sz_lt (by omega), Fr.mut (c.fr.trans f) c.new c.ne, c.new, c.ne, vs ++ [y], ds ++ [d], upd_same, ?_, by simp; omega, fun e m => ?_⟩
  · rw [hid_upd2 _ _ c.ne]
    exact dps_app (dps_same (same_hid f.sm) _ _ h2) (.cons hy .nil)
  · rcases List.mem_append.mp m with m | m
    · exact h4 e m
    · rw [List.mem_singleton.mp m]
      exact hg
/-- a pair of ints, new -/
theorem dp_pair {p : Addr} {k r : Int} (hB : Bag H b) (hD : H D ≠ none) (hp : H p = none) : Dp K (hid D (hid b (upd H p (.tup [.int k, .int r])))) (.ref p) (.tuple [.int k, .int r]) :=
  .tup (st_of (hid_at (hid_at upd_same (hB.ne hp)) fun z => hD (z ▸ hp))) (.cons (.int k) (.cons (.int r) .nil))
theorem Col.at (c : Col b K g H D i H') : H' D ≠ none := by
  obtain ⟨vs, ds, h1, _⟩ := c.ex
  rw [h1]
  exact fun z => nomatch z
/-- tuple(..) of what was collected -/
theorem Col.tup {te : TE} {σ : L2.St} {Q : VK} {i : Nat} (h : ∀ Q' : VK, (∀ p H', Col b K g H p i H' → Q' (.ref p) H') → te σ H Q') (hz : i ≤ 1100)
    (q : ∀ v d H', Fr b H H' → Dp K (hid b H') v d → (∃ ds : List PyData, d = .tuple ds ∧ ds.length ≤ i ∧ ∀ d ∈ ds, g d = true) → Q v H') :
    tCB (fun xs H Q => ∃ p ys, xs = [.ref p] ∧ ((SqL K H p ys ∧ ∀ l, H l = none → Q (.ref l) (upd H l (.tup ys))) ∨ (SqT K H p ys ∧ Q (.ref p) H))) (tCons te tNil) σ H Q :=
  h _ fun p H' c => by
    obtain ⟨vs, ds, h1, h2, h3, h4⟩ := c.ex
    refine ⟨p, vs, rfl, .inl ⟨sq_of h1, fun l hl => q (.ref l) (.tuple ds) _ (c.fr.trans (Fr.new c.fr.bag hl)) (dpt_new c.fr.bag hl (dps_same (hid_same p _) _ _ h2)) ⟨ds, rfl, by rw [← dps_len h2]; exact h3, h4⟩⟩⟩
/-- a table of drawn worths -/
def spTab (K : PySem.W.Frag) : Sp := fun vs H Q _ => ∃ (b l : Addr) (ks : List Int), vs = [.ref b, .ref l] ∧ Bag H b ∧ l ≠ b ∧ H l = some (.lst (ks.map V.int)) ∧ (∀ k ∈ ks, 0 ≤ k ∧ k < 1000) ∧ ks.length ≤ 1000 ∧ ∀ v d H', Fr b H H' → Dp K (hid b H') v d → gd 0 2 d = true → Q v H'
theorem gd_pair {k r : Int} (h0 : 0 ≤ k) (h1 : k < 100000) (h2 : 0 ≤ r) (h3 : r < 100000) : gd 0 1 (.tuple [.int k, .int r]) = true := by
  refine gd_tup.mpr ⟨by simp, fun d m => ?_⟩
  simp only [List.mem_cons, List.not_mem_nil, or_false] at m
  rcases m with rfl | rfl
  · exact decide_eq_true (by have : (100000 : Nat) ≤ 10 ^ 31 := by decide
                             omega)
  · exact decide_eq_true (by have : (100000 : Nat) ≤ 10 ^ 31 := by decide
                             omega)
end
end Tc
namespace Tc
open PySem L2 Evl
section
variable {X : Cx}
def rAddB : R2 := fun x y H Q => ∃ (k : Bool) (i : Int), x = .bl k ∧ y = .int i ∧ Q (.int ((if k = true then (1 : Int) else 0) + i)) H
def rSubB : R2 := fun x y H Q => ∃ (k : Bool) (i : Int), x = .bl k ∧ y = .int i ∧ Q (.int ((if k = true then (1 : Int) else 0) - i)) H
def rNegB : V → Hp → VK → Prop := fun x H Q => ∃ k : Bool, x = .bl k ∧ Q (.int (-(if k = true then (1 : Int) else 0))) H
def rStrB : List V → Hp → VK → Prop := fun xs H Q => ∃ k : Bool, xs = [.bl k] ∧ Q (.str (if k = true then "True" else "False")) H
theorem op_add_bi : OpR X (binaryOp .Add) rAddB := by
  intro pins s σ H x y v u Q I rx ry h
  obtain ⟨k, i, rfl, rfl, q⟩ := h
  cases (show v = Value.bool k from rx)
  obtain ⟨t, rfl⟩ := ry
  exact IntBool.add_bool_int ⟨.int _, H, I.tok _, ⟨_, rfl⟩, q⟩
theorem op_sub_bi : OpR X (binaryOp .Sub) rSubB := by
  intro pins s σ H x y v u Q I rx ry h
  obtain ⟨k, i, rfl, rfl, q⟩ := h
  cases (show v = Value.bool k from rx)
  obtain ⟨t, rfl⟩ := ry
  exact IntBool.sub_bool_int ⟨.int _, H, I.tok _, ⟨_, rfl⟩, q⟩
theorem gives_neg_b (k : Bool) : Gives (Builtin.«int.__neg__» ⟨[.bool k], []⟩) (.int (-(if k = true then (1 : Int) else 0))) := .of_eq (by cases k <;> rfl)
theorem un_neg_b : UnR X (unaryOp .USub) rNegB := by
  intro pins s σ H x v Q I rx h
  obtain ⟨k, rfl, q⟩ := h
  cases (show v = Value.bool k from rx)
  exact unaryOp_gives (op := .USub) (typeIs_bool s k) rfl F.slot_bool_neg F.entry_int_neg (F.args_int_neg_1 _) (gives_neg_b k) ⟨.int _, H, I.tok _, ⟨_, rfl⟩, q⟩
theorem call_str_b : CallR X (.type "str") rStrB := by
  intro pins s σ H xs us Q I r h
  obtain ⟨k, rfl, q⟩ := h
  obtain ⟨u, rfl, r1⟩ := vals1 r
  cases (show u = Value.bool k from r1)
  refine PySem.P.str_of_bool ?_
  cases k with
  | true => exact ⟨.str "True", H, I.tok _, ⟨_, rfl⟩, q⟩
  | false => exact ⟨.str "False", H, I.tok _, ⟨_, rfl⟩, q⟩
end
theorem gd_int {c n : Nat} {i : Int} : gd c n (.int i) = true ↔ i.natAbs ≤ 10 ^ 31 + 1000 * c := by
  cases n <;> (rw [gd, decide_eq_true_eq])
theorem gd_str {c n : Nat} {z : Str} : gd c n (.str z) = true ↔ z.length ≤ 100 * 3 ^ c := by
  cases n <;> (rw [gd, decide_eq_true_eq])
theorem text_len {i : Int} {c : Nat} (hc : c ≤ 1000) (h : i.natAbs ≤ 10 ^ 31 + 1000 * c) : (Str.ofString (toString i)).length ≤ 33 := by
  have e := int_text_length_le10 (a := i) (k := 32) (by decide) (by
    have : (10 : Nat) ^ 32 = 10 * 10 ^ 31 := by decide
    have : (1000000 : Nat) ≤ 10 ^ 31 := by decide
    omega)
  rw [ofString_length]
  exact e
theorem log_small {i : Int} {c : Nat} (hc : c ≤ 1000) (h : i.natAbs ≤ 10 ^ 31 + 1000 * c) : i.natAbs.log2 < 1920 := by
  have h1 : i.natAbs < 2 ^ 200 := by
    have : (10 : Nat) ^ 31 + 1000 * 1000 < 2 ^ 200 := by decide
    omega
  by_cases h0 : i.natAbs = 0
  · rw [h0]
    decide
  · have := (Nat.log2_lt h0).mpr h1
    omega
end Tc
/-! data kept apart from a set of objects (the bag, lists under work) -/
namespace Tc
open PySem L2 Evl
open Classical in
noncomputable def cut (S : Addr → Prop) (H : Hp) : Hp := fun a => if S a then none else H a
theorem cut_in {S : Addr → Prop} {H : Hp} {a : Addr} (h : S a) : cut S H a = none := by
  unfold cut
  rw [if_pos h]
theorem cut_at {S : Addr → Prop} {H : Hp} {a : Addr} {o : HO} (h : H a = some o) (n : ¬ S a) : cut S H a = some o := by
  unfold cut
  rw [if_neg n]
  exact h
theorem cut_same (S : Addr → Prop) (H : Hp) : Same (cut S H) H := fun a o h => by
  by_cases n : S a
  · rw [cut_in n] at h
    cases h
  · unfold cut at h
    rw [if_neg n] at h
    exact h
theorem cut_out {S : Addr → Prop} {H : Hp} {a : Addr} {o : HO} (h : cut S H a = some o) : ¬ S a := fun n => by
  rw [cut_in n] at h
  cases h
theorem cut_hid (b : Addr) (H : Hp) : cut (fun a => a = b) H = hid b H := by
  funext a
  unfold cut hid
  by_cases h : a = b
  · rw [if_pos h, if_pos h]
  · rw [if_neg h, if_neg h]
/-- what is kept apart is there -/
structure Sok (S : Addr → Prop) (b : Addr) (H : Hp) : Prop where
  mem : S b
  old : ∀ a, S a → H a ≠ none
section
variable {S : Addr → Prop} {b : Addr} {K : PySem.W.Frag} {σ : L2.St} {H H' : Hp} {ta tb tc te : TE} {t : TT} {x y z v : V} {d : PyData}
theorem Sok.fr (h : Sok S b H) (f : Fr b H H') : Sok S b H' := ⟨h.mem, fun a m => by
  by_cases e : a = b
  · obtain ⟨x, y, hb, _⟩ := f.bag
    rw [e, hb]
    exact fun z => nomatch z
  · cases h1 : H a with
    | none => exact absurd h1 (h.old a m)
    | some o =>
      rw [f.at h1 e]
      exact fun z => nomatch z⟩
theorem Sok.new (h : Sok S b H) {p : Addr} (hp : H p = none) : ¬ S p := fun m => h.old p m hp
theorem cut_sm (h : S b) (f : Fr b H H') : Same (cut S H) (cut S H') := fun a o e => by
  have n := cut_out e
  exact cut_at (f.at (cut_same S H a o e) fun z => n (z ▸ h)) n
/-- the objects of S may change -/
theorem cut_upd {p : Addr} {o : HO} (h : S p) : cut S (upd H p o) = cut S H := by
  funext a
  unfold cut
  by_cases m : S a
  · rw [if_pos m, if_pos m]
  · rw [if_neg m, if_neg m, upd_ne (fun z : a = p => m (z ▸ h))]
theorem cdt_new {p : Addr} {vs : List V} {ds : List PyData} (hS : Sok S b H) (hB : Bag H b) (hp : H p = none) (h : DpAll K (cut S H) vs ds) : Dp K (cut S (upd H p (.tup vs))) (.ref p) (.tuple ds) :=
  .tup (st_of (cut_at upd_same (hS.new hp))) (dps_same (cut_sm hS.mem (Fr.new hB hp)) _ _ h)
theorem cdl_new {p : Addr} {vs : List V} {ds : List PyData} (hS : Sok S b H) (hB : Bag H b) (hp : H p = none) (h : DpAll K (cut S H) vs ds) : Dp K (cut S (upd H p (.lst vs))) (.ref p) (.list ds) :=
  .lst (sq_of (cut_at upd_same (hS.new hp))) (dps_same (cut_sm hS.mem (Fr.new hB hp)) _ _ h)
def CD (S : Addr → Prop) (b : Addr) (K : PySem.W.Frag) (te : TE) (σ : L2.St) (H : Hp) (d : PyData) : Prop := ∀ H1, Fr b H H1 → ∀ Q : VK, (∀ v H2, Fr b H1 H2 → Dp K (cut S H2) v d → Q v H2) → te σ H1 Q
def CDA (S : Addr → Prop) (b : Addr) (K : PySem.W.Frag) (ta : TA) (σ : L2.St) (H : Hp) (ds : List PyData) : Prop := ∀ H1, Fr b H H1 → ∀ Q : List V → Hp → Prop, (∀ vs H2, Fr b H1 H2 → DpAll K (cut S H2) vs ds → Q vs H2) → ta σ H1 Q
def CDL (S : Addr → Prop) (b : Addr) (K : PySem.W.Frag) (te : TE) (σ : L2.St) (H : Hp) (ds : List PyData) : Prop := ∀ H1, Fr b H H1 → ∀ Q : VK, (∀ p vs H2, Fr b H1 H2 → H1 p = none → p ≠ b → H2 p = some (.lst vs) → DpAll K (cut S H2) vs ds → Q (.ref p) H2) → te σ H1 Q
theorem cd_c (h : ∀ H, Dp K H v d) : CD S b K (tC v) σ H d := fun H1 e _ q => q v H1 (Fr.refl e.bag) (h _)
theorem cd_neg {i : Int} : CD S b K (tUn (rU fun i => .int (-i)) (tC (.int i))) σ H (.int (-i)) := fun H1 e _ q => ⟨i, rfl, q _ H1 (Fr.refl e.bag) (.int _)⟩
theorem cd_pow {i j : Int} (h : CPow i j) : CD S b K (tOp (rI CPow fun i j => .int (i ^ j.toNat)) (tC (.int i)) (tC (.int j))) σ H (.int (i ^ j.toNat)) := fun H1 e _ q => ⟨i, j, rfl, rfl, h, q _ H1 (Fr.refl e.bag) (.int _)⟩
theorem cda_nil : CDA S b K tNil σ H [] := fun H1 e _ q => q [] H1 (Fr.refl e.bag) .nil
theorem cda_cons {tr : TA} {ds : List PyData} (hS : S b) (h : CD S b K te σ H d) (r : CDA S b K tr σ H ds) : CDA S b K (tCons te tr) σ H (d :: ds) := fun H1 e _ q =>
  h H1 e _ fun v H2 e2 hv => r H2 (e.trans e2) _ fun vs H3 e3 hvs => q (v :: vs) H3 (e2.trans e3) (.cons (dp_same (cut_sm hS e3) _ _ hv) hvs)
theorem cd_tup {ta : TA} {ds : List PyData} (hS : Sok S b H) (h : CDA S b K ta σ H ds) (hl : ds.length ≤ 100000) : CD S b K (tTup ta) σ H (.tuple ds) := fun H1 e _ q =>
  h H1 e _ fun vs H2 e2 hv => ⟨sz_of (by rw [dps_len hv]; exact hl), fun p hp => q (.ref p) _ (e2.trans (Fr.new e2.bag hp)) (cdt_new ((hS.fr e).fr e2) e2.bag hp hv)⟩
theorem cd_lst {ta : TA} {ds : List PyData} (hS : Sok S b H) (h : CDA S b K ta σ H ds) (hl : ds.length ≤ 100000) : CD S b K (tLst ta) σ H (.list ds) := fun H1 e _ q =>
  h H1 e _ fun vs H2 e2 hv => ⟨sz_of (by rw [dps_len hv]; exact hl), fun p hp => q (.ref p) _ (e2.trans (Fr.new e2.bag hp)) (cdl_new ((hS.fr e).fr e2) e2.bag hp hv)⟩
theorem cdl_lst {ta : TA} {ds : List PyData} (hS : S b) (h : CDA S b K ta σ H ds) (hl : ds.length ≤ 100000) : CDL S b K (tLst ta) σ H ds := fun H1 e _ q =>
  h H1 e _ fun vs H2 e2 hv => ⟨sz_of (by rw [dps_len hv]; exact hl), fun p hp => q p vs _ (e2.trans (Fr.new e2.bag hp)) (fr_back' e2 hp) (e2.bag.ne hp) upd_same (dps_same (cut_sm hS (Fr.new e2.bag hp)) _ _ hv)⟩
theorem cdl_cat {i : Nat} {p : Addr} {vs : List V} {ds es : List PyData} (hS : S b) (hσ : σ[i]? = some (some (.ref p))) (hp : H p = some (.lst vs)) (hpb : p ≠ b) (hd : DpAll K (cut S H) vs ds) (h : CDL S b K tb σ H es) (hl : ds.length + es.length ≤ 100000) :
    CDL S b K (tOp rCat (tVar i) tb) σ H (ds ++ es) := fun H1 e _ q => ⟨.ref p, hσ, h H1 e _ fun r ws H2 e2 hr hrb hr2 hd2 => ⟨p, r, vs, ws, rfl, rfl, (e.trans e2).at hp hpb, hr2, sz_of (by rw [dps_len hd, dps_len hd2]; exact hl), fun s hs =>
  q s (vs ++ ws) _ (e2.trans (Fr.new e2.bag hs)) (fr_back' e2 hs) (e2.bag.ne hs) upd_same (dps_app (dps_same (cut_sm hS ((e.trans e2).trans (Fr.new e2.bag hs))) _ _ hd) (dps_same (cut_sm hS (Fr.new e2.bag hs)) _ _ hd2))⟩⟩
/-- the promise of a def that hands back data, drawing -/
def spNew (K : PySem.W.Frag) (g : PyData → Bool) : Sp := fun vs H Q _ => ∃ (b : Addr) (S : Addr → Prop), vs = [.ref b] ∧ Bag H b ∧ Sok S b H ∧ ∀ v d H', Fr b H H' → Dp K (cut S H') v d → g d = true → Q v H'
/-- one drawn item of a list of data -/
theorem cdraw_item {i j : Nat} {p : Addr} {vs : List V} {ds : List PyData} {Q : VK} {E : XK} (hS : S b) (hB : Bag H b) (hσ : σ[i]? = some (some (.ref p))) (hσ2 : σ[j]? = some (some (.ref b))) (hp : H p = some (.lst vs)) (hpb : p ≠ b) (hd : DpAll K (cut S H) vs ds) (h0 : 0 < ds.length) (hl : ds.length < 1000)
    (q : ∀ v d H', Fr b H H' → d ∈ ds → Dp K (cut S H') v d → Q v H') : tOp (rIxL K) (tVar i) (tCall spTake [] E (tCons (tVar j) (tCons (tCB (rLenS K) (tCons (tVar i) tNil)) tNil))) σ H Q := by
  refine ⟨.ref p, hσ, .ref b, hσ2, .ref p, hσ, p, vs, rfl, .inl (sq_of hp), b, _, rfl, hB, ?_, ?_, fun r H' fr h0' h1' => ?_⟩
  · have := dps_len hd
    omega
  · have := dps_len hd
    omega
  · obtain ⟨n, rfl⟩ : ∃ n : Nat, r = (n : Int) := ⟨r.toNat, by omega⟩
    have hlt : n < vs.length := by omega
    obtain ⟨d, hd1, hd2⟩ := dps_at hd (List.getElem?_eq_getElem hlt)
    exact ⟨p, vs, n, vs[n], rfl, rfl, sq_of (fr.at hp hpb), atI_nat (List.getElem?_eq_getElem hlt), q _ d H' fr (List.mem_of_getElem? hd1) (dp_same (cut_sm hS fr) _ _ hd2)⟩
end
end Tc
namespace Tc
open PySem L2 Evl
section
variable {S : Addr → Prop} {b : Addr} {K : PySem.W.Frag} {σ : L2.St} {H H' : Hp} {ta tb tc te : TE} {t : TT} {x y z v : V} {d : PyData}
theorem ev_isiT (ha : Ev ta σ H v) (h : Dp K H v d) : Ev (tCB (rIsiT K) (tCons ta (tCons (tTup (tCons (tC (.ty "tuple")) (tCons (tC (.ty "list")) tNil))) tNil))) σ H (.bl (isTup d || isLst d)) := fun H1 e Q q =>
  ha H1 e _ fun H2 e2 => ⟨sz_of (by simp), fun p hp => ⟨v, p, [.ty "tuple", .ty "list"], .type (tyN d), [.type "tuple", .type "list"], isTup d || isLst d, rfl, upd_same, .cons (.ty _) (.cons (.ty _) .nil), ty_dp (dp_same ((e.trans e2).trans (Ex.new hp)) _ _ h),
    kitAny_cons (kit_ty (kit_tuple (dp_nodict h))) (fun e1 => kitAny_cons (kit_ty (kit_list (dp_nodict h))) (fun e3 => by rw [e1, e3]; exact kitAny_nil) fun e3 => by rw [e1, e3]; rfl) (fun e1 => by rw [e1]; rfl), q _ (e2.trans (Ex.new hp))⟩⟩
theorem cd_ev (h : ∀ H, Ev te σ H v) (hd : ∀ H, Dp K H v d) : CD S b K te σ H d := fun H1 e _ q => h H1 H1 (Ex.refl H1) _ fun H2 x2 => q v H2 (Fr.ex e.bag x2) (hd _)
theorem cd_item {ds : List PyData} {j : Nat} (hS : S b) (h : CDL S b K ta σ H ds) (hb : ∀ H, Ev tb σ H (.int (j : Int))) (hj : ds[j]? = some d) : CD S b K (tOp (rIxL K) ta tb) σ H d := fun H1 e _ q =>
  h H1 e _ fun p vs H2 f2 hp hpb h2 hd => hb H2 H2 (Ex.refl H2) _ fun H3 x3 => by
    obtain ⟨v, hv, hv2⟩ := dps_at' hd hj
    exact ⟨p, vs, j, v, rfl, rfl, sq_of (x3 p _ h2), atI_nat hv, q v H3 (f2.trans (Fr.ex f2.bag x3)) (dp_same (cut_sm hS (Fr.ex f2.bag x3)) _ _ hv2)⟩
def rAddSt : R2 := fun x y H Q => ∃ i j, x = .str i ∧ y = .str j ∧ i.length + j.length ≤ sizeLine ∧ Q (.str (i ++ j)) H
theorem rv_addS {i j : Str} (h : i.length + j.length ≤ 10000000) : RV rAddSt (.str i) (.str j) H (.str (i ++ j)) := fun H1 _ _ q => ⟨i, j, rfl, rfl, Nat.le_trans h (by decide), q H1 (Ex.refl H1)⟩
theorem ev_slS {tl th : TO} {s : Str} {lo hi : Option Int} (h : Ev te σ H (.str s)) (h1 : EvO tl σ H lo) (h2 : EvO th σ H hi) (hs : s.length ≤ 10000000) : Ev (tSl rSlS te tl th) σ H (.str (cutS s lo hi)) := fun H1 e _ q =>
  h H1 e _ fun H2 e2 => h1 H2 (e.trans e2) _ fun H3 e3 => h2 H3 ((e.trans e2).trans e3) _ fun H4 e4 => ⟨s, rfl, Nat.le_trans hs (by decide), q H4 ((e2.trans e3).trans e4)⟩
theorem ev_upper {s : Str} (h : Ev te σ H (.str s)) (hs : s.length ≤ 5592405) : Ev (tM0 (fun x xs H Q => ∃ a, x = .str a ∧ xs = [] ∧ a.length ≤ 5592405 ∧ Q (.str (Txt.upper a)) H) te) σ H (.str (Txt.upper s)) := fun H1 e _ q =>
  h H1 e _ fun H2 e2 => ⟨⟨s, rfl⟩, s, rfl, rfl, hs, q H2 e2⟩
theorem ev_strI {i : Int} (h : Ev te σ H (.int i)) (hs : i.natAbs.log2 < 1920) : Ev (tCB (fun xs H Q => ∃ i, xs = [.int i] ∧ i.natAbs.log2 < 1920 ∧ Q (.str (toString i)) H) (tCons te tNil)) σ H (.str (toString i)) := ev_cb (ea_cons h ea_nil) fun H1 _ _ q => ⟨i, rfl, hs, q H1 (Ex.refl H1)⟩
theorem ev_strB {k : Bool} (h : Ev te σ H (.bl k)) : Ev (tCB rStrB (tCons te tNil)) σ H (.str (if k = true then "True" else "False")) := ev_cb (ea_cons h ea_nil) fun H1 _ _ q => ⟨k, rfl, q H1 (Ex.refl H1)⟩
theorem rv_addB {k : Bool} {i : Int} : RV rAddB (.bl k) (.int i) H (.int ((if k = true then (1 : Int) else 0) + i)) := fun H1 _ _ q => ⟨k, i, rfl, rfl, q H1 (Ex.refl H1)⟩
theorem rv_subB {k : Bool} {i : Int} : RV rSubB (.bl k) (.int i) H (.int ((if k = true then (1 : Int) else 0) - i)) := fun H1 _ _ q => ⟨k, i, rfl, rfl, q H1 (Ex.refl H1)⟩
theorem ru_negB {k : Bool} : RU rNegB (.bl k) H (.int (-(if k = true then (1 : Int) else 0))) := fun H1 _ _ q => ⟨k, rfl, q H1 (Ex.refl H1)⟩
/-- the promise of the def that spoils data -/
def spSp (K : PySem.W.Frag) (n : Nat) : Sp := fun vs H Q _ => ∃ (b : Addr) (v : V) (d : PyData) (S : Addr → Prop) (c : Nat), vs = [.ref b, v] ∧ Bag H b ∧ Sok S b H ∧ Dp K (cut S H) v d ∧ gd c n d = true ∧ c ≤ 8 ∧
  ∀ v' d' H', Fr b H H' → Dp K (cut S H') v' d' → gd (c + 1) (n + 3) d' = true → Q v' H'
end
theorem pow_bd {c : Nat} (h : c ≤ 9) : 100 * 3 ^ c ≤ 1968300 ∧ 100 ≤ 100 * 3 ^ c := by
  have h1 : 3 ^ c ≤ 3 ^ 9 := Nat.pow_le_pow_right (by decide) h
  have h2 : 1 ≤ 3 ^ c := Nat.pos_of_ne_zero (by
    have := Nat.pow_pos (n := c) (show 0 < 3 by decide)
    omega)
  have h3 : (3 : Nat) ^ 9 = 19683 := by decide
  omega
end Tc
namespace Tc
open PySem L2 Evl
section
variable {S : Addr → Prop} {b : Addr} {K : PySem.W.Frag} {σ : L2.St} {H H' : Hp} {ta tb tc te : TE} {t : TT} {x y z v : V} {d : PyData}
/-- one more object kept apart -/
def also (S : Addr → Prop) (l : Addr) : Addr → Prop := fun a => S a ∨ a = l
theorem also_same {l : Addr} : Same (cut (also S l) H) (cut S H) := fun a o h => cut_at (cut_same _ _ _ _ h) fun m => cut_out h (.inl m)
theorem also_new {l : Addr} (hS : S b) (f : Fr b H H') (hl : H l = none) : Same (cut S H) (cut (also S l) H') := fun a o h => by
  have n := cut_out h
  have h1 := cut_same S H a o h
  refine cut_at (f.at h1 fun z => n (z ▸ hS)) fun m => ?_
  rcases m with m | m
  · exact n m
  · rw [m, hl] at h1
    cases h1
theorem Sok.also {l : Addr} (h : Sok S b H) (hl : H l ≠ none) : Sok (also S l) b H := ⟨.inl h.mem, fun a m => by
  rcases m with m | m
  · exact h.old a m
  · rw [m]
    exact hl⟩
def SQ (K : PySem.W.Frag) (H : Hp) (a : Addr) (xs : List V) : Prop := SqL K H a xs ∨ SqT K H a xs
theorem SQ.same {a : Addr} {xs : List V} (h : SQ K H a xs) (e : Same H H') : SQ K H' a xs := by
  rcases h with h | h
  · exact .inl (ex_l e h)
  · exact .inr (ex_t e h)
theorem ev_lenQ {p : Addr} {xs : List V} (ha : Ev ta σ H (.ref p)) (h : SQ K H p xs) : Ev (tCB (rLenS K) (tCons ta tNil)) σ H (.int (xs.length : Int)) := fun H1 e Q q =>
  ha H1 e _ fun H2 e2 => ⟨p, xs, rfl, h.same (e.trans e2), q H2 e2⟩
theorem cut_len1 (xs : List V) (k : Nat) : (cutV xs none (some (k : Int))).length ≤ k := by
  unfold cutV
  rw [HT.sIx_nat, HT.sIx_none, List.length_take]
  omega
theorem cut_len2 (xs : List V) (k : Nat) : (cutV xs (some (k : Int)) none).length ≤ xs.length - k := by
  unfold cutV
  rw [HT.sIx_nat, HT.sIx_none, List.length_take, List.length_drop]
  omega
theorem dps_cut {xs : List V} {ds : List PyData} (lo hi : Option Int) (h : DpAll K H xs ds) : ∃ es, DpAll K H (cutV xs lo hi) es ∧ ∀ e ∈ es, e ∈ ds := by
  unfold cutV
  exact ⟨_, dps_take _ (dps_drop _ h), fun e m => List.mem_of_mem_drop (List.mem_of_mem_take m)⟩
theorem mem_set {α : Type} {l : List α} {n : Nat} {a e : α} (h : e ∈ l.set n a) : e ∈ l ∨ e = a := by
  rcases List.mem_or_eq_of_mem_set h with h | h
  · exact .inl h
  · exact .inr h
end
end Tc
/-! data beside texts: ==, not in -/
namespace Tc
open PySem L2 Evl
def eqS (s : Str) : PyData → Bool
  | .str z => decide (z = s) | _ => false
def rEqStr (K : PySem.W.Frag) : R2 := fun x y H Q => ∃ (d : PyData) (s : Str), Dp K H x d ∧ y = .str s ∧ Q (.bl (eqS s d)) H
section
variable {X : Cx}
theorem op_eqStr (hu : X.A.units + 64 < cLine) : OpR X (compareOp .Eq) (rEqStr X.K) := by
  intro pins s σ H x y v u Q I rx ry h
  obtain ⟨d, z, hd, rfl, q⟩ := h
  cases hd with
  | non => exact op_eq pins s σ H _ _ v u Q I rx ry ⟨rfl, q⟩
  | bl b => exact op_eq pins s σ H _ _ v u Q I rx ry ⟨rfl, q⟩
  | int i => exact op_eq pins s σ H _ _ v u Q I rx ry ⟨rfl, q⟩
  | str w =>
    refine op_eq pins s σ H _ _ v u Q I rx ry ⟨rfl, ?_⟩
    rw [show decide (V.str w = V.str z) = decide (w = z) from decide_eq_decide.mpr ⟨fun e => V.str.inj e, fun e => congrArg V.str e⟩]
    exact q
  | @lst a xs ds h r =>
    cases (show v = Value.ref a from rx)
    obtain ⟨t, rfl⟩ := (show ∃ t, u = Value.str z t from ry)
    obtain ⟨its, _, pl, _⟩ := I.list h
    exact SeqAt.RcAt.list_str z t pl.isList (by omega) _ _ _ _ ⟨.bl false, H, I, rfl, q⟩
  | @tup a xs ds h r =>
    cases (show v = Value.ref a from rx)
    obtain ⟨t, rfl⟩ := (show ∃ t, u = Value.str z t from ry)
    obtain ⟨its, _, pl, _⟩ := I.tuple h
    exact SeqAt.RcAt.tuple_str z t pl (by omega) _ _ _ _ ⟨.bl false, H, I, rfl, q⟩
end
def inS (ss : List Str) : PyData → Bool
  | .str z => decide (z ∈ ss) | _ => false
def rNotInStr (K : PySem.W.Frag) : R2 := fun x y H Q => ∃ (d : PyData) (p : Addr) (ss : List Str), Dp K H x d ∧ y = .ref p ∧ SqT K H p (ss.map V.str) ∧ Q (.bl (!inS ss d)) H
theorem inV_str (z : Str) : ∀ ss : List Str, inV (.str z) (ss.map V.str) = decide (z ∈ ss)
  | [] => rfl
  | s :: ss => by
    have ih := inV_str z ss
    unfold inV at ih ⊢
    rw [List.map_cons, List.any_cons, ih]
    show ((s == z) || decide (z ∈ ss)) = decide (z ∈ s :: ss)
    by_cases h : s = z
    · subst h
      simp
    · have h2 : ¬ z = s := fun e => h e.symm
      simp [h, h2]
theorem inV_other {x : V} (hx : ∀ s, eqV (.str s) x = false) : ∀ ss : List Str, inV x (ss.map V.str) = false
  | [] => rfl
  | s :: ss => by
    have ih := inV_other hx ss
    unfold inV at ih ⊢
    rw [List.map_cons, List.any_cons, ih, hx]
    rfl
theorem flat_strs' : ∀ ss : List Str, (ss.map V.str).all flatV = true
  | [] => rfl
  | s :: ss => by rw [List.map_cons, List.all_cons, flat_strs' ss]; rfl
theorem strs_mem : ∀ {us : List Value} {xs : List Str}, PyProof.Rows.StrsAre us xs → ∀ v ∈ us, ∃ (z : Str) (t : Tok), v = .str z t
  | _, _, .nil, v, m => by simp at m
  | _, _, .cons z t r, v, m => by
    rcases List.mem_cons.mp m with e | m
    · exact ⟨z, t, e⟩
    · exact strs_mem r v m
section
variable {X : Cx}
theorem op_notInStr (hu : X.A.units + 64 < cLine) : OpR X (compareOp .NotIn) (rNotInStr X.K) := by
  intro pins s σ H x y v u Q I rx ry h
  obtain ⟨d, p, ss, hd, rfl, hp, q⟩ := h
  have flat : ∀ x' : V, flatV x' = true → RelV x' v → Q (.bl (!inV x' (ss.map V.str))) H → wpAny (model X.prog X.w) X.A (compareOp .NotIn v u) (EP X pins σ Q) X.xe s := fun x' fx rx' q' =>
    op_notIn_seq pins s σ H x' _ v u Q I rx' ry ⟨p, _, rfl, .inr hp, fx, flat_strs' ss, q'⟩
  have refs : ∀ a : Addr, v = Value.ref a → (∀ (w : Str) (t : Tok), SeqAt.EqAt X.A.in1 s (.str w t) (.ref a) false) → Q (.bl true) H → wpAny (model X.prog X.w) X.A (compareOp .NotIn v u) (EP X pins σ Q) X.xe s := fun a ev he q' => by
    cases (show u = Value.ref p from ry)
    subst ev
    obtain ⟨its, rv, pl, _⟩ := I.tuple hp
    refine SeqAt.notIn_tupleAt (fun _ => false) pl (fun y hy => ?_) ⟨.bl _, H, I, rfl, ?_⟩
    · have sv := strsAre_of rv
      obtain ⟨i, hi, e⟩ := List.mem_iff_getElem.mp (show y ∈ its by simpa using hy)
      obtain ⟨z, t, e2⟩ := strs_mem sv y (e ▸ List.getElem_mem hi)
      rw [e2]
      exact he z t
    · rw [show its.toArray.any (fun _ => false) = false by simp]
      exact q'
  cases hd with
  | non => exact flat .non rfl rx (by rw [inV_other (fun s => rfl)]; exact q)
  | bl b => exact flat (.bl b) rfl rx (by rw [inV_other (fun s => rfl)]; exact q)
  | int i => exact flat (.int i) rfl rx (by rw [inV_other (fun s => rfl)]; exact q)
  | str w => exact flat (.str w) rfl rx (by rw [inV_str]; exact q)
  | @lst a xs ds h r =>
    obtain ⟨its, _, pl, _⟩ := I.list h
    exact refs a rx (fun w t => SeqAt.EqAt.str_list w t pl.isList (by simp; omega)) q
  | @tup a xs ds h r =>
    obtain ⟨its, _, pl, _⟩ := I.tuple h
    exact refs a rx (fun w t => SeqAt.EqAt.str_tuple w t pl (by simp; omega)) q
end
section
variable {K : PySem.W.Frag} {σ : L2.St} {H : Hp} {ta tb tc te : TE} {x y z v : V} {d : PyData}
theorem ev_eqStr {s : Str} (ha : Ev ta σ H v) (h : Dp K H v d) (hb : Ev tb σ H (.str s)) : Ev (tOp (rEqStr K) ta tb) σ H (.bl (eqS s d)) := ev_op ha hb fun H1 e _ q => ⟨d, s, dp_same e _ _ h, rfl, q H1 (Ex.refl H1)⟩
theorem ev_notInStr {ss : List Str} (ha : Ev ta σ H v) (h : Dp K H v d) (hb : EvU tb σ H (ss.map V.str)) : Ev (tOp (rNotInStr K) ta tb) σ H (.bl (!inS ss d)) := ev_opU ha hb fun p H1 hp e1 H2 e2 _ q => ⟨d, p, ss, dp_same (e1.trans e2) _ _ h, rfl, st_of (e2 p _ hp), q H2 (Ex.refl H2)⟩
theorem ev_all {bs : List Bool} (ha : EvL ta σ H (bs.map V.bl)) : Ev (tCB (rAll K) (tCons ta tNil)) σ H (.bl (bs.all id)) := fun H1 e Q q =>
  ha H1 e _ fun p H2 hp e2 h2 => ⟨p, bs, rfl, sq_of h2, q H2 e2⟩
theorem ev_lst (ha : Ev ta σ H v) (h : Dp K H v d) : Ev (tCB (rIsi K) (tCons ta (tCons (tC (.ty "list")) tNil))) σ H (.bl (isLst d)) := ev_isi ha h (kit_list (dp_nodict h))
theorem ev_ix2 {p : Addr} {xs : List V} {x0 x1 : V} (ha : Ev ta σ H (.ref p)) (h : SqT K H p (x0 :: x1 :: v :: xs)) : Ev (tOp (rIxT K) ta (tC (.int 2))) σ H v := ev_ixT (j := 2) ha h rfl
theorem three_of {α : Type} {l : List α} (h : l.length = 3) : ∃ x y z, l = [x, y, z] := match l, h with | [x, y, z], _ => ⟨x, y, z, rfl⟩
end
end Tc
namespace Tc
open PySem L2 Evl
def rEqE (K : PySem.W.Frag) : R2 := fun x y H Q => ∃ (a b : Addr) (xs : List V), x = .ref a ∧ y = .ref b ∧ SqL K H a xs ∧ SqL K H b [] ∧ Q (.bl xs.isEmpty) H
theorem op_eqE {X : Cx} (hu : X.A.units + 64 < cLine) : OpR X (compareOp .Eq) (rEqE X.K) := by
  intro pins s σ H x y v u Q I rx ry h
  obtain ⟨a, b, xs, rfl, rfl, ha, hb, q⟩ := h
  cases xs with
  | nil => exact op_eqD hu pins s σ H _ _ v u Q I rx ry ⟨.list [], .list [], .lst ha .nil, .lst hb .nil, rfl, rfl, q⟩
  | cons z zs =>
    cases (show v = Value.ref a from rx)
    cases (show u = Value.ref b from ry)
    obtain ⟨i1, r1, l1, _⟩ := I.list ha
    obtain ⟨i2, r2, l2, _⟩ := I.list hb
    have h1 : (i1.toArray.size != i2.toArray.size) = true := by
      have e1 := r1.length
      have e2 := r2.length
      simp only [List.size_toArray]
      rw [← e1, ← e2]
      rfl
    exact SeqAt.RcAt.lists_lengths l1.isList l2.isList h1 (by omega) _ _ _ _ ⟨.bl false, H, I, rfl, q⟩
section
variable {K : PySem.W.Frag} {σ : L2.St} {H : Hp} {ta tb tc te : TE} {t : TT} {x y z v : V} {d : PyData}
theorem ev_dict2 {i j n : Int} {x y z : V} (hb : Ev tb σ H (.int n)) (hv : valV (mergeK [] [((.inl i : Key), x), (.inl j, y)]) (.inl n) = some z) : Ev (tDGet (tDisp [(tC (.int i), tC x), (tC (.int j), tC y)]) tb) σ H z := fun H1 e Q q p hp =>
  ⟨upd_same, [((.inl i : Key), x), (.inl j, y)], rfl, by simp, hb _ (e.trans (Ex.mut (Ex.new hp) hp)) _ fun H3 e3 => ⟨p, z, rfl, hv ▸ DGet.k (k := .inl n) (e3 p _ upd_same), q H3 ((Ex.mut (Ex.new hp) hp).trans e3)⟩⟩
theorem ev_eqE {xs : List V} (ha : EvL ta σ H xs) : Ev (tOp (rEqE K) ta (tLst tNil)) σ H (.bl xs.isEmpty) :=
  ev_opLL ha (el_lst ea_nil (by simp)) fun p r H1 hp hr x1 H2 x2 Q q => ⟨p, r, _, rfl, rfl, sq_of (x2 p _ hp), sq_of (x2 r _ hr), q H2 (Ex.refl H2)⟩
theorem given_emptyB {n : Nat} {ds : List PyData} (f : PyData → Bool) (u : Nat → V) (hn : n = ds.length) : (given n (fun i => !f (ds.getD i .none)) u).isEmpty = ds.all f := by
  subst hn
  rw [Bool.eq_iff_iff, given_empty, List.all_eq_true]
  constructor
  · intro h d m
    obtain ⟨i, hi, rfl⟩ := List.mem_iff_getElem.mp m
    have := h i hi
    rw [List.getD_eq_getElem?_getD, List.getElem?_eq_getElem hi] at this
    cases e : f ds[i] with
    | true => rfl
    | false =>
      simp only [Option.getD_some] at this
      rw [e] at this
      cases this
  · intro h i hi
    rw [List.getD_eq_getElem?_getD, List.getElem?_eq_getElem hi]
    simp only [Option.getD_some]
    rw [h _ (List.getElem_mem hi)]
    rfl
end
end Tc
namespace Tc
open PySem L2 Evl
/-- a list at D that collects data, one a turn, beside a bag at b, apart from S -/
structure ColE (S : Addr → Prop) (b : Addr) (K : PySem.W.Frag) (g : PyData → Bool) (H : Hp) (D : Addr) (i : Nat) (H' : Hp) : Prop where
  fr : Fr b H H'
  sok : Sok S b H
  new : H D = none
  ne : D ≠ b
  ex : ∃ (vs : List V) (ds : List PyData), H' D = some (.lst vs) ∧ DpAll K (cut (also S D) H') vs ds ∧ vs.length = i ∧ ∀ d ∈ ds, g d = true
section
variable {S : Addr → Prop} {b D : Addr} {K : PySem.W.Frag} {g : PyData → Bool} {H H' H4 : Hp} {i : Nat} {y : V} {d : PyData}
theorem ColE.start (hS : Sok S b H) (hB : Bag H b) (hD : H D = none) : ColE S b K g H D 0 (upd H D (.lst [])) := ⟨Fr.new hB hD, hS, hD, hB.ne hD, [], [], upd_same, .nil, rfl, fun d m => by simp at m⟩
theorem ColE.skip (c : ColE S b K g H D i H') (f : Fr b H' H4) : ColE S b K g H D i H4 := by
  obtain ⟨vs, ds, h1, h2, h3, h4⟩ := c.ex
  exact ⟨c.fr.trans f, c.sok, c.new, c.ne, vs, ds, f.at h1 c.ne, dps_same (cut_sm (.inl c.sok.mem) f) _ _ h2, h3, h4⟩
theorem ColE.push (c : ColE S b K g H D i H') (f : Fr b H' H4) (hy : Dp K (cut (also S D) H4) y d) (hg : g d = true) (hi : i < 10000) : ∃ acc, H4 D = some (.lst acc) ∧ acc.length < sizeLine ∧ ColE S b K g H D (i + 1) (upd H4 D (.lst (acc ++ [y]))) := by
  obtain ⟨vs, ds, h1, h2, h3, h4⟩ := c.ex
  refine ⟨vs, f.at h1 c.ne, sz_lt (by omega), Fr.mut (c.fr.trans f) c.new c.ne, c.sok, c.new, c.ne, vs ++ [y], ds ++ [d], upd_same, ?_, by simp; omega, fun e m => ?_⟩
  · rw [cut_upd (.inr rfl)]
    exact dps_app (dps_same (cut_sm (.inl c.sok.mem) f) _ _ h2) (.cons hy .nil)
  · rcases List.mem_append.mp m with m | m
    · exact h4 e m
    · rw [List.mem_singleton.mp m]
      exact hg
theorem ColE.at (c : ColE S b K g H D i H') : H' D ≠ none := by
  obtain ⟨vs, ds, h1, _⟩ := c.ex
  rw [h1]
  exact fun z => nomatch z
theorem ColE.from {H1 : Hp} (hS : Sok S b H) (f : Fr b H H1) (c : ColE S b K g H1 D i H') : ColE S b K g H D i H' := by
  obtain ⟨vs, ds, h1, h2, h3, h4⟩ := c.ex
  exact ⟨f.trans c.fr, hS, fr_back' f c.new, c.ne, vs, ds, h1, h2, h3, h4⟩
theorem ColE.sokD (c : ColE S b K g H D i H') : Sok (also S D) b H' := (c.sok.fr c.fr).also c.at
/-- a new tuple of leaves, apart from S and D -/
theorem dp_leaves {p : Addr} {vs : List V} {ds : List PyData} (hS : Sok S b H) (hp : H p = none) (h : ∀ H2, DpAll K H2 vs ds) : Dp K (cut S (upd H p (.tup vs))) (.ref p) (.tuple ds) :=
  .tup (st_of (cut_at upd_same (hS.new hp))) (h _)
/-- keys of a table, one at least -/
def spKeysP : Sp := fun vs H Q _ => ∃ b : Addr, vs = [.ref b] ∧ Bag H b ∧ ∀ l (ks : List Int) H', Fr b H H' → H l = none → l ≠ b → H' l = some (.lst (ks.map V.int)) → (∀ k ∈ ks, 0 ≤ k ∧ k < 1000) → ks.length ≤ 1000 → 0 < ks.length → Q (.ref l) H'
/-- a list of keys at l -/
structure KeysAt (b : Addr) (H : Hp) (l : Addr) (ks : List Int) : Prop where
  ne : l ≠ b
  h : H l = some (.lst (ks.map V.int))
  bd : ∀ k ∈ ks, 0 ≤ k ∧ k < 1000
  few : ks.length ≤ 1000
  some : 0 < ks.length
theorem KeysAt.fr {l : Addr} {ks : List Int} (k : KeysAt b H l ks) (f : Fr b H H') : KeysAt b H' l ks := ⟨k.ne, f.at k.h k.ne, k.bd, k.few, k.some⟩
/-- one of the keys -/
def spOf : Sp := fun vs H Q _ => ∃ (b l : Addr) (ks : List Int), vs = [.ref b, .ref l] ∧ Bag H b ∧ KeysAt b H l ks ∧ ∀ k H', k ∈ ks → Fr b H H' → Q (.int k) H'
end
end Tc
/-! a set comprehension with two for's, its members ints -/
namespace Tc
open PySem PySem.Spec PyProof.Rows L2
/-- {elt for t0 in i0 if .. for t1 in i1 if ..} -/
abbrev Sc2 (elt t0 i0 t1 i1 : Expr) (c0 c1 : List Expr) (sc : Scope) (ps : Pos) : Expr := .SetComp elt [⟨t0, i0, c0, 0⟩, ⟨t1, i1, c1, 0⟩] sc ps
/-- the tests of a clause, one behind the other -/
abbrev allOf (cs : List Expr) (env : Env) : Sem Bool := forIn cs true fun c r => if r = true then do let ok ← isTrue c env (eval c env); pure (ForInStep.yield ok) else pure (ForInStep.yield r)
section
variable {prog : Program} {w : World} {A : Around} {R : Result → Shared → Prop} {s : Shared} {elt t0 i0 t1 i1 : Expr} {c0 c1 : List Expr} {sc : Scope} {ps : Pos} {it acc : Value} {env : Env}
/-- what is raised goes the way that the comprehension's frame notes -/
abbrev Nt (prog : Program) (w : World) (A : Around) (env : Env) (R : Result → Shared → Prop) : Value → Shared → Prop := notedBy (model prog w) A env fun e s' => R (.error e) s'
theorem turnS_out : compTurn (Sc2 elt t0 i0 t1 i1 c0 c1 sc ps) 0 it acc env = (standAt i0.pos >>= fun _ => pyNext it >>= fun r => match r with
      | none => pure (.done .next)
      | some v => (letOwnedTupleGo t0 it v >>= fun _ => assign t0 env v >>= fun _ => allOf c0 env >>= fun ok => if ok then
          (eval i1 env >>= fun x => standAt i1.pos >>= fun _ => foldedSetIterable i1 env x >>= fun x => holding [x] (pyIter x) >>= fun j => runOwn (.compStart (Sc2 elt t0 i0 t1 i1 c0 c1 sc ps) 1 j acc env) env >>= fun _ => again (.compLoop (Sc2 elt t0 i0 t1 i1 c0 c1 sc ps) 0 it acc env))
          else again (.compLoop (Sc2 elt t0 i0 t1 i1 c0 c1 sc ps) 0 it acc env))) := by rfl
theorem turnS_in : compTurn (Sc2 elt t0 i0 t1 i1 c0 c1 sc ps) 1 it acc env = (standAt i1.pos >>= fun _ => pyNext it >>= fun r => match r with
      | none => pure (.done .next)
      | some v => (letOwnedTupleGo t1 it v >>= fun _ => assign t1 env v >>= fun _ => allOf c1 env >>= fun ok => if ok then
          ((eval elt env >>= fun v => standAt elt.pos >>= fun _ => call (.builtin "set.add") [acc, v] >>= fun _ => pure ()) >>= fun _ => again (.compLoop (Sc2 elt t0 i0 t1 i1 c0 c1 sc ps) 1 it acc env))
          else again (.compLoop (Sc2 elt t0 i0 t1 i1 c0 c1 sc ps) 1 it acc env))) := by rfl
/-- one turn of a clause: what comes next is taken, stored and tested; Y: what is wanted where the tests hold, N: where they don't, Z: at the end -/
def TurnOf (prog : Program) (w : World) (A : Around) (env : Env) (E : Value → Shared → Prop) (tg : Expr) (cs : List Expr) (it : Value) (Z : Shared → Prop) (Y N : Shared → Prop) (s : Shared) : Prop :=
  wpAny (model prog w) A (pyNext it) (fun r s₁ => match r with
    | none => Z s₁
    | some v => wpAny (model prog w) A (letOwnedTupleGo tg it v) (fun _ s₂ => wpAny (model prog w) A (assign tg env v) (fun _ s₃ => wpAny (model prog w) A (allOf cs env) (fun ok s₄ => if ok = true then Y s₄ else N s₄) E s₃) E s₂) E s₁) E s
theorem loopS_in (I : Nat → Shared → Prop) (turn : ∀ n s, I n s → TurnOf prog w A env (Nt prog w A env R) t1 c1 it (R (.ok .next))
      (fun s₄ => wpAny (model prog w) A (eval elt env) (fun x s₅ => wpAny (model prog w) A (call (.builtin "set.add") [acc, x]) (fun _ s₆ => ∃ m, m < n ∧ I m s₆) (Nt prog w A env R) s₅) (Nt prog w A env R) s₄) (fun s₄ => ∃ m, m < n ∧ I m s₄) s)
    (n : Nat) (h : I n s) : codeAny (model prog w) A (.compLoop (Sc2 elt t0 i0 t1 i1 c0 c1 sc ps) 1 it acc env) R s := by
  refine codeAny_loop rfl I (fun n s hI => (show wpAny _ A ((compTurn (Sc2 elt t0 i0 t1 i1 c0 c1 sc ps) 1 it acc env).onRaise (fun x => do noteFrame x env; theTreesLotGoes x)) _ _ s from wpAny_noted ?_)) n h
  rw [turnS_in]
  refine wpAny_bind (wpAny_standAt (wpAny_bind (wpAny_mono (turn n s hI) (fun r s₁ h₁ => ?_) fun _ _ z => z)))
  match r, h₁ with
  | none, h₁ => exact wpAny_pure h₁
  | some v, h₁ =>
    refine wpAny_bind (wpAny_mono h₁ (fun _ s₂ h₂ => wpAny_bind (wpAny_mono h₂ (fun _ s₃ h₃ => wpAny_bind (wpAny_mono h₃ (fun ok s₄ h₄ => ?_) fun _ _ z => z)) fun _ _ z => z)) fun _ _ z => z)
    match ok, h₄ with
    | false, h₄ => exact wpAny_pure ⟨rfl, h₄⟩
    | true, h₄ => exact wpAny_bind (wpAny_bind (wpAny_mono h₄ (fun x s₅ h₅ => wpAny_bind (wpAny_standAt (wpAny_bind (wpAny_mono h₅ (fun _ s₆ h₆ => wpAny_pure (wpAny_pure ⟨rfl, h₆⟩)) fun _ _ z => z)))) fun _ _ z => z))
theorem loopS_out (hs : ∀ x, foldedSetIterable i1 env x = pure x) (I : Nat → Shared → Prop) (turn : ∀ n s, I n s → TurnOf prog w A env (Nt prog w A env R) t0 c0 it (R (.ok .next))
      (fun s₄ => wpAny (model prog w) A (eval i1 env) (fun x s₅ => wpAny (model prog w) A (pyIter x) (fun j s₆ => codeAny (model prog w) A (.compStart (Sc2 elt t0 i0 t1 i1 c0 c1 sc ps) 1 j acc env) (fun r s' => match r with
        | .ok _ => ∃ m, m < n ∧ I m s' | .error _ => False) s₆) (Nt prog w A env R) s₅) (Nt prog w A env R) s₄) (fun s₄ => ∃ m, m < n ∧ I m s₄) s)
    (n : Nat) (h : I n s) : codeAny (model prog w) A (.compLoop (Sc2 elt t0 i0 t1 i1 c0 c1 sc ps) 0 it acc env) R s := by
  refine codeAny_loop rfl I (fun n s hI => (show wpAny _ A ((compTurn (Sc2 elt t0 i0 t1 i1 c0 c1 sc ps) 0 it acc env).onRaise (fun x => do noteFrame x env; theTreesLotGoes x)) _ _ s from wpAny_noted ?_)) n h
  rw [turnS_out]
  refine wpAny_bind (wpAny_standAt (wpAny_bind (wpAny_mono (turn n s hI) (fun r s₁ h₁ => ?_) fun _ _ z => z)))
  match r, h₁ with
  | none, h₁ => exact wpAny_pure h₁
  | some v, h₁ =>
    refine wpAny_bind (wpAny_mono h₁ (fun _ s₂ h₂ => wpAny_bind (wpAny_mono h₂ (fun _ s₃ h₃ => wpAny_bind (wpAny_mono h₃ (fun ok s₄ h₄ => ?_) fun _ _ z => z)) fun _ _ z => z)) fun _ _ z => z)
    match ok, h₄ with
    | false, h₄ => exact wpAny_pure ⟨rfl, h₄⟩
    | true, h₄ =>
      refine wpAny_bind (wpAny_mono h₄ (fun x s₅ h₅ => wpAny_bind (wpAny_standAt (wpAny_bind (wpAny_of_eq (hs x) (wpAny_bind (wpAny_holding (wpAny_mono h₅ (fun j s₆ h₆ => wpAny_bind (wpAny_runOwn ?_)) fun _ _ z => z))))))) fun _ _ z => z)
      rw [Around.mark_none]
      refine codeAny_mono h₆ fun r s' hr => ?_
      match r, hr with
      | .ok f, hr => first | exact wpAny_pure ⟨rfl, hr⟩ | exact wpAny_bind (wpAny_pure (wpAny_pure ⟨rfl, hr⟩))
      | .error e, hr => exact hr.elim
/-- the start of either clause's loop -/
theorem startS {k : Nat} (hk : k = 0 ∨ k = 1) (h0 : codeAny (model prog w) A (.compLoop (Sc2 elt t0 i0 t1 i1 c0 c1 sc ps) k it acc env) R s)
    (h : wpAny (model prog w) A (pyIter it) (fun j s' => codeAny (model prog w) A (.compLoop (Sc2 elt t0 i0 t1 i1 c0 c1 sc ps) k j acc env) R s') (Nt prog w A env R) s) :
    codeAny (model prog w) A (.compStart (Sc2 elt t0 i0 t1 i1 c0 c1 sc ps) k it acc env) R s := by
  rcases hk with rfl | rfl
  · refine codeAny_of_tree (show wpAny _ _ ((compStart (Sc2 elt t0 i0 t1 i1 c0 c1 sc ps) 0 it acc env).onRaise (fun x => do noteFrame x env; standAt theWindowsPlace)) _ _ s from wpAny_notedAt ?_)
    unfold compStart
    refine (show wpAny _ _ (ask >>= _) _ _ s from wpAny_bind (wpAny_askSetting (wpAny_ite ?_)))
    split
    · first | exact wpAny_bind (wpAny_pure (wpAny_pure ⟨rfl, h0⟩)) | exact wpAny_pure ⟨rfl, h0⟩
    · first
        | exact wpAny_bind (wpAny_rule (wpAny_bind (wpAny_standAt (wpAny_bind (wpAny_mono h (fun j s' z => wpAny_pure ⟨rfl, z⟩) fun _ _ z => z)))))
        | exact wpAny_bind (wpAny_rule (show wpAny _ _ (standAt i0.pos >>= _) _ _ s from wpAny_bind (wpAny_standAt (wpAny_bind (wpAny_mono h (fun j s' z => wpAny_pure ⟨rfl, z⟩) fun _ _ z => z)))))
  · refine codeAny_of_tree (show wpAny _ _ ((compStart (Sc2 elt t0 i0 t1 i1 c0 c1 sc ps) 1 it acc env).onRaise (fun x => do noteFrame x env; standAt theWindowsPlace)) _ _ s from wpAny_notedAt ?_)
    unfold compStart
    refine (show wpAny _ _ (ask >>= _) _ _ s from wpAny_bind (wpAny_askSetting (wpAny_ite ?_)))
    split
    · first | exact wpAny_bind (wpAny_pure (wpAny_pure ⟨rfl, h0⟩)) | exact wpAny_pure ⟨rfl, h0⟩
    · first
        | exact wpAny_bind (wpAny_rule (wpAny_bind (wpAny_standAt (wpAny_bind (wpAny_mono h (fun j s' z => wpAny_pure ⟨rfl, z⟩) fun _ _ z => z)))))
        | exact wpAny_bind (wpAny_rule (show wpAny _ _ (standAt i1.pos >>= _) _ _ s from wpAny_bind (wpAny_standAt (wpAny_bind (wpAny_mono h (fun j s' z => wpAny_pure ⟨rfl, z⟩) fun _ _ z => z)))))
end
section
variable {X : Cx}
/-- the empty set at D -/
abbrev set0 (w : World) (D : Addr) : HO := SetO w D (fun _ => false) 0
/-- k more in the set at D -/
abbrev setMore (w : World) (D : Addr) (S : Int → Bool) (n : Nat) (k : Int) : HO := SetO w D (fun j => S j || decide (j = k)) (if S k = true then n else n + 1)
/-- behind the first clause's store and tests stands the second clause's own loop; vs: the names of both, vs1: of the second -/
def tSc2 (w : World) (wi : TI) (g : TG) (tt : TT) (wi1 : TI) (g1 : TG) (tt1 : TT) (te : TE) (vs vs1 : List Nat) : TE := fun σ H Q => wi σ H fun J H1 => ∀ D, H1 D = none → ∃ W : Nat → Nat → Hp → Prop, (∃ m, W 0 m (upd H1 D (set0 w D))) ∧ ∀ i m H, W i m H →
  (J.stop i H ∧ Q (.ref D) H) ∨ (J.go i H ∧ ∃ Nx : Hp → Prop, (∀ H', Nx H' → ∃ m', m' < m ∧ W (i + 1) m' H') ∧ ∀ x H', J.yld i H x H' → g x (wipe σ vs) H' fun σ2 H2 => wipe σ2 vs = wipe σ vs ∧ tt σ2 H2 fun b H3 => if b = true then
    wi1 σ2 H3 fun J1 H4 => ∃ W1 : Nat → Nat → Hp → Prop, (∃ m, W1 0 m H4) ∧ ∀ j k H, W1 j k H → (J1.stop j H ∧ Nx H) ∨ (J1.go j H ∧ ∃ Nx1 : Hp → Prop, (∀ H', Nx1 H' → ∃ k', k' < k ∧ W1 (j + 1) k' H') ∧
      ∀ x H', J1.yld j H x H' → g1 x (wipe σ2 vs1) H' fun σ3 H5 => wipe σ3 vs1 = wipe σ2 vs1 ∧ tt1 σ3 H5 fun b H6 => if b = true then te σ3 H6 fun y H7 => ∃ (c : Int) (S : Int → Bool) (n : Nat), y = .int c ∧ H7 D = some (SetO w D S n) ∧ n + 1 < scanBound ∧ Nx1 (upd H7 D (setMore w D S n c)) else Nx1 H6)
    else Nx H3)
theorem add_int {pins : List (Addr × Obj)} {σ : L2.St} {H : Hp} {s : Shared} {E : Value → Shared → Prop} {D : Addr} {S : Int → Bool} {n : Nat} {c : Int} {v : Value} {Q : Value → Shared → Prop} (I : Inv X pins σ H s) (hD : H D = some (SetO X.w D S n)) (room : n + 1 < scanBound) (rv : RelV (.int c) v)
    (h : ∀ s', Inv X pins σ (upd H D (setMore X.w D S n c)) s' → Q .none s') : wpAny (model X.prog X.w) X.A (call (.builtin "set.add") [.ref D, v]) Q E s := by
  obtain ⟨t, rfl⟩ := rv
  refine setR_add (setO_get I hD) room fun h' sb new => h _ (I.write (e := D) (t' := s.toks + 1) (by rw [hD]; trivial) (.inl rfl) (fun b u hb hu => (sb.2 b hb).trans hu) ?_ (setO_new new))
  exact let ⟨o, _, _, _, ho, _⟩ := new; ⟨o, ho⟩
set_option maxHeartbeats 4000000 in
theorem pe_sc2 {elt tg iter tg1 iter1 : Expr} {ifs ifs1 : List Expr} {sc : Scope} {own : List (Str × Nat)} {vs1 : List Nat} {pos : Pos} {wi wi1 : TI} {g g1 : TG} {tt tt1 : TT} {te : TE} (hc : X.calm = true) (hN : X.N.Nodup) (hi : PI X tg iter wi) (ok : BlkOk X.N X.env.scope sc own) (hv : ∀ i ∈ vs1, i ∈ own.map (·.2))
    (hb : ∀ (s : Shared) (H : Hp) (C : Addr) (cl : List (Str × Addr)) (fp : List Addr), (PG (X.blk s H sc (compEnvC sc cl C X.env) fp) tg g ∧ PTs (X.blk s H sc (compEnvC sc cl C X.env) fp) ifs tt) ∧ (PI (X.blk s H sc (compEnvC sc cl C X.env) fp) tg1 iter1 wi1 ∧ PG (X.blk s H sc (compEnvC sc cl C X.env) fp) tg1 g1 ∧ PTs (X.blk s H sc (compEnvC sc cl C X.env) fp) ifs1 tt1) ∧ PE (X.blk s H sc (compEnvC sc cl C X.env) fp) elt te)
    (hs : ∀ x, foldedSetIterable iter X.env x = pure x := by intro _; rfl) (hs1 : ∀ env x, foldedSetIterable iter1 env x = pure x := by intro _ _; rfl) :
    PE X (Sc2 elt tg iter tg1 iter1 ifs ifs1 sc pos) (tSc2 X.w wi g tt wi1 g1 tt1 te (own.map (·.2)) vs1) := by
  refine ⟨fun pins s σ H Q I h => ?_⟩
  have hfree : ∀ y ∈ sc.names, y.2 = .free → ∃ c, X.env.cells.lookup y.1 = some c := fun y hy e => (ok.free y hy e).elim (fun z => I.ok.has _ (.inl z)) fun z => I.ok.has _ (.inr z)
  rw [PpSet.eval_SetComp]
  refine wpAny_comprehension_free (use := none) rfl hs (closure_ok hfree) ok.kind (fun y hy e => by rw [ok.uniq y hy, e]) (thn (hi.run pins s σ H _ I h) fun xv s1 hxs => thn hxs fun itv s2 h2 => ?_)
  obtain ⟨it, fp, tn, J, H2, rfl, I2, T, be2, f2, q⟩ := h2
  refine PpSet.newSet_ok (newEnv_comp ?_)
  generalize hD : s2.heap.objs.size = D
  have freeD : H2 D = none := I2.hok.fresh (Nat.le_of_eq hD)
  obtain ⟨W, ⟨m0, w0⟩, tick⟩ := q D freeD
  show codeAny _ _ (.compStart (Sc2 elt tg iter tg1 iter1 ifs ifs1 sc pos) 0 (.ref it) (.ref D) (compEnvC sc (cellsFrom ((withSet X.w s2).heap.objs.size + 1) sc.names (cloFrom X.env.cells sc.names [])) (withSet X.w s2).heap.objs.size X.env)) (compPost (model X.prog X.w) X.A X.xe none (EP X pins σ Q) (.ref D) (withSet X.w s2).heap.objs.size) { (withSet X.w s2) with heap := pushCells ((withSet X.w s2).heap.push { cls := .type "dict", data := .dict #[] }) sc.names }
  generalize hs3 : withSet X.w s2 = s3
  have h3 : s3.heap = s2.heap.push (noneSet X.w) := by rw [← hs3]
  have I3 : Inv X pins σ (upd H2 D (set0 X.w D)) s3 := by
    subst hs3 hD
    exact I2.laid (t' := s2.toks) (fun b o e => Heap.get?_push_of_some _ e) (Nat.le_refl _) (setO_new (setR_fresh X.w))
  have f3 : ∀ b ∈ fp, FpOk X pins (upd H2 D (set0 X.w D)) b ∧ b < s3.heap.objs.size := fun b hb => by
    obtain ⟨o, e, _⟩ := T.obj _ _ be2 b hb
    have lt := Heap.lt_size e
    exact ⟨⟨by rw [upd_ne (by rw [← hD]; exact Nat.ne_of_lt lt)]; exact (f2 b hb).1, (f2 b hb).2⟩, by rw [h3, Heap.size_push]; exact Nat.lt_succ_of_lt lt⟩
  have J4 := block_start I3 ok hN f3
  obtain ⟨⟨pg, pt⟩, ⟨pi1, pg1, pt1⟩, pe⟩ := hb s3 (upd H2 D (set0 X.w D)) s3.heap.objs.size (cellsFrom (s3.heap.objs.size + 1) sc.names (cloFrom X.env.cells sc.names [])) fp
  have no3 : ∀ b ∈ fp, (upd H2 D (set0 X.w D)) b = none := fun b hb => (f3 b hb).1.1
  have be3 : tn 0 s3.heap := T.keep _ _ _ be2 fun b _ o e => by rw [h3]; exact Heap.get?_push_of_some _ e
  generalize hce : compEnvC sc (cellsFrom (s3.heap.objs.size + 1) sc.names (cloFrom X.env.cells sc.names [])) s3.heap.objs.size X.env = ce at J4 pg pt pe pi1 pg1 pt1 ⊢
  have loc : ce.locals = s3.heap.objs.size := by subst hce; rfl
  generalize hH3 : upd H2 D (set0 X.w D) = H3 at I3 J4 pg pt pe pi1 pg1 pt1 w0 no3 f3
  generalize hs4 : ({ s3 with heap := pushCells (s3.heap.push { cls := .type "dict", data := .dict #[] }) sc.names } : Shared) = s4 at J4 ⊢
  have be4 : tn 0 s4.heap := T.keep _ _ _ be3 fun b _ o e => by subst hs4; exact pushCells_keeps _ _ _ _ (Heap.get?_push_of_some _ e)
  have free1 : ∀ {τ : L2.St} {G : Hp} {u : Shared}, Inv (X.blk s3 H3 sc ce fp) [] τ G u → (∀ b ∈ fp, G b = none) → ∀ b ∈ fp, FpOk (X.blk s3 H3 sc ce fp) [] G b := fun {τ G u} I' hn b hb =>
    ⟨hn b hb, (I'.ok.exf b hb).1, I'.ok.exfs b hb, .inl hb, fun x c e => (I'.ok.exf b hb).2 x c e, fun p hp => by simp at hp⟩
  /- the state between two turns of the first loop -/
  let At : Nat → Shared → Prop := fun n u => ∃ i G, Inv (X.blk s3 H3 sc ce fp) [] (wipe σ (own.map (·.2))) G u ∧ tn i u.heap ∧ (∀ b ∈ fp, G b = none) ∧ W i n G
  refine startS (.inl rfl) ?loop (T.self X.A 0 _ _ _ be4 ?loop)
  case loop =>
    refine loopS_out (hs1 ce) At ?_ m0 ⟨0, H3, J4, be4, no3, w0⟩
    rintro n s5 ⟨i, H5, I5, be5, n5, wd5⟩
    rcases tick i n H5 wd5 with ⟨stop, qq⟩ | ⟨go, Nx, hNx, step⟩
    · refine thnF (T.done (X.blk s3 H3 sc ce fp) rfl rfl rfl hc i [] s5 _ H5 (fun _ _ => False) I5 (free1 I5 n5) be5 stop) fun r s6 ⟨hr, I6⟩ => ?_
      subst hr
      have J7 : Inv X pins σ H5 s6 := I3.call' (ch := fp) I6.os I6.base I6.hok I6.bare fun b hb => ⟨(f3 b hb).1.2.2.2.1, (f3 b hb).1.2.1, (f3 b hb).1.2.2.2.2.1, (f3 b hb).1.2.2.2.2.2⟩
      have gone : H5 s3.heap.objs.size = none := loc ▸ (I6.free : H5 ce.locals = none)
      obtain ⟨m, hm, _⟩ := I6.loc
      obtain ⟨g0, g1', g2, g3, g4, g5⟩ := I3.fpOk (Nat.le_refl _) gone
      exact ⟨m, loc ▸ (hm : s6.heap.Ns ce.locals m), fun h'' sb => ⟨.ref D, H5, J7.turned (t' := s6.toks) (fun b o hb e => (sb.2 b hb).trans e) g0 g1' g3 g4 g5, rfl, qq⟩⟩
    · refine thnF (T.item (X.blk s3 H3 sc ce fp) rfl rfl rfl hc i [] s5 _ H5 (fun _ _ => False) I5 (free1 I5 n5) be5 go) fun r s6 ⟨u, hr, h6⟩ => ?_
      subst hr
      refine thnF h6 fun _ s7 ⟨x, H7, I7, r7, y7, be7, n7⟩ => thnF (pg.run _ s7 _ H7 x u _ (I7.pinned (free1 I7 n7) (T.obj _ _ be7)) r7 (step x H7 y7)) fun _ s8 ⟨σ8, H8, I8, hw8, q8⟩ => thnF (pt.run _ s8 σ8 H8 _ I8 q8) fun b s9 ⟨H9, I9, q9⟩ => ?_
      have back : ∀ {τ : L2.St} {u : Shared} {G : Hp}, Inv (X.blk s3 H3 sc ce fp) ([] ++ pinsAt fp s7.heap) τ G u → (wipe σ (own.map (·.2))).length = τ.length → (∀ (j : Nat) v, (wipe σ (own.map (·.2)))[j]? = some (some v) → τ[j]? = some (some v)) → Nx G → ∃ m, m < n ∧ At m u := fun {τ u G} I' hl hk nx => by
        obtain ⟨m', hm, w'⟩ := hNx G nx
        have pin : ∀ b ∈ fp, ∀ o, s7.heap.get? b = some o → u.heap.get? b = some o ∧ G b = none := fun b hb o e => ⟨(I'.pin (b, o) (List.mem_append_right _ (List.mem_append_right _ (mem_pinsAt hb e)))).1, (I'.pin (b, o) (List.mem_append_right _ (List.mem_append_right _ (mem_pinsAt hb e)))).2.1⟩
        refine ⟨m', hm, i + 1, G, (I'.unpinned (pins := [])).weak hl hk, T.keep _ _ _ be7 fun b hb o e => (pin b hb o e).1, fun b hb => ?_, w'⟩
        obtain ⟨o, e, _⟩ := T.obj _ _ be7 b hb
        exact (pin b hb o e).2
      have l8 : (wipe σ (own.map (·.2))).length = σ8.length := by rw [← hw8, wipe_length]
      have k8 : ∀ (j : Nat) v, (wipe σ (own.map (·.2)))[j]? = some (some v) → σ8[j]? = some (some v) := fun j v e => (wipe_some (hw8 ▸ e)).1
      have k9 : ∀ (j : Nat) v, (wipe σ (own.map (·.2)))[j]? = some (some v) → (wipe σ8 vs1)[j]? = some (some v) := fun j v e => by
        obtain ⟨e1, out2⟩ := wipe_some (hw8 ▸ e)
        rw [wipe_out fun z => out2 (hv j z)]
        exact e1
      match b, q9 with
      | false, q9 =>
        show ∃ m, m < n ∧ At m s9
        exact back I9 l8 k8 q9
      | true, q9 =>
        refine thnF (pi1.run _ s9 σ8 H9 _ I9 q9) fun xv s10 hxs => thnF hxs fun itv s11 h11 => ?_
        obtain ⟨it1, fp1, tn1, J1, H11, rfl, I11, T1, be11, f11, W1, ⟨m1, w1⟩, tick1⟩ := h11
        have free2 : ∀ {G : Hp}, (∀ b ∈ fp1, G b = none) → ∀ b ∈ fp1, FpOk (X.blk s3 H3 sc ce fp) ([] ++ pinsAt fp s7.heap) G b := fun hn b hb => ⟨hn b hb, (f11 b hb).2⟩
        let At1 : Nat → Shared → Prop := fun k u => ∃ j G, Inv (X.blk s3 H3 sc ce fp) ([] ++ pinsAt fp s7.heap) (wipe σ8 vs1) G u ∧ tn1 j u.heap ∧ (∀ b ∈ fp1, G b = none) ∧ W1 j k G
        refine startS (.inr rfl) ?inner (T1.self X.A 0 _ _ _ be11 ?inner)
        case inner =>
          refine loopS_in At1 ?_ m1 ⟨0, H11, I11.weak (wipe_length _ _) (fun j v e => (wipe_some e).1), be11, fun b hb => (f11 b hb).1, w1⟩
          rintro k s12 ⟨j, H12, I12, be12, n12, wd12⟩
          rcases tick1 j k H12 wd12 with ⟨stop1, nx1⟩ | ⟨go1, Nx1, hNx1, step1⟩
          · refine thnF (T1.done (X.blk s3 H3 sc ce fp) rfl rfl rfl hc j _ s12 (wipe σ8 vs1) H12 (fun _ _ => False) I12 (free2 n12) be12 stop1) fun r s13 ⟨hr, I13⟩ => ?_
            subst hr
            exact back I13 (l8.trans (wipe_length σ8 vs1).symm) k9 nx1
          · refine thnF (T1.item (X.blk s3 H3 sc ce fp) rfl rfl rfl hc j _ s12 (wipe σ8 vs1) H12 (fun _ _ => False) I12 (free2 n12) be12 go1) fun r s13 ⟨u1, hr, h13⟩ => ?_
            subst hr
            refine thnF h13 fun _ s14 ⟨x1, H14, I14, r14, y14, be14, n14⟩ => thnF (pg1.run _ s14 (wipe σ8 vs1) H14 x1 u1 _ (I14.pinned (free2 n14) (T1.obj _ _ be14)) r14 (step1 x1 H14 y14)) fun _ s15 ⟨σ15, H15, I15, hw15, q15⟩ => thnF (pt1.run _ s15 σ15 H15 _ I15 q15) fun b1 s16 ⟨H16, I16, q16⟩ => ?_
            have back1 : ∀ {u : Shared} {G : Hp}, Inv (X.blk s3 H3 sc ce fp) (([] ++ pinsAt fp s7.heap) ++ pinsAt fp1 s14.heap) σ15 G u → Nx1 G → ∃ m, m < k ∧ At1 m u := fun {u G} I' nx => by
              obtain ⟨m', hm, w'⟩ := hNx1 G nx
              have pin : ∀ b ∈ fp1, ∀ o, s14.heap.get? b = some o → u.heap.get? b = some o ∧ G b = none := fun b hb o e => ⟨(I'.pin (b, o) (List.mem_append_right _ (List.mem_append_right _ (mem_pinsAt hb e)))).1, (I'.pin (b, o) (List.mem_append_right _ (List.mem_append_right _ (mem_pinsAt hb e)))).2.1⟩
              refine ⟨m', hm, j + 1, G, I'.unpinned.weak (by rw [← hw15, wipe_length]) (fun j v e => (wipe_some (hw15 ▸ e)).1), T1.keep _ _ _ be14 fun b hb o e => (pin b hb o e).1, fun b hb => ?_, w'⟩
              obtain ⟨o, e, _⟩ := T1.obj _ _ be14 b hb
              exact (pin b hb o e).2
            match b1, q16 with
            | false, q16 =>
              show ∃ m, m < k ∧ At1 m s16
              exact back1 I16 q16
            | true, q16 =>
              refine thnF (pe.run _ s16 σ15 H16 _ I16 q16) fun z s17 ⟨yv, H17, I17, r17, c, S0, n0, ey, hD17, room, nx⟩ => ?_
              subst ey
              exact add_int (X := X.blk s3 H3 sc ce fp) I17 hD17 room r17 fun s18 I18 => back1 I18 nx
end
end Tc
/-! name = {dict comprehension}; tuple(list) as a tuple without a dict of its own; dict(tuple of pairs) -/
namespace Tc
open PySem PySem.Spec PyProof.Rows L2
section
variable {X : Cx}
theorem ps_setDc {i : Nat} {y : Str} {py : Pos} {kx vx tg iter : Expr} {ifs : List Expr} {scope : Scope} {own : List (Str × Nat)} {pos spos : Pos} {wi : TI} {g : TG} {tt : TT} {tk tv : TE} (hc : X.calm = true) (hN : X.N.Nodup) (hy : X.N[i]? = some y) (hyl : X.env.scope.names.lookup y = some .local)
    (hsw : swapsWith (.DictComp kx vx [⟨tg, iter, ifs, 0⟩] scope pos) (some (.Name y py)) spos.line X.env = pure true) (hi : PI X tg iter wi) (ok : BlkOk X.N X.env.scope scope own)
    (hb : ∀ (s : Shared) (H : Hp) (C : Addr) (cl : List (Str × Addr)) (fp : List Addr), PG (X.blk s H scope (compEnvC scope cl C X.env) fp) tg g ∧ PTs (X.blk s H scope (compEnvC scope cl C X.env) fp) ifs tt ∧ PE (X.blk s H scope (compEnvC scope cl C X.env) fp) kx tk ∧ PE (X.blk s H scope (compEnvC scope cl C X.env) fp) vx tv)
    (hs : ∀ x, foldedSetIterable iter X.env x = pure x := by intro _; rfl) :
    PS X (.Assign [.Name y py] (.DictComp kx vx [⟨tg, iter, ifs, 0⟩] scope pos) spos) (tAsg (tDc wi g tt tk tv (own.map (·.2))) (gName i)) := by
  refine ⟨fun pins s σ H D I hyp => (exec_Assign_Name_used _ _ _ _ hsw).symm ▸ wpAny_bind (wpAny_standAt (wpAny_bind ?_))⟩
  have made : tDc wi g tt tk tv (own.map (·.2)) σ H (fun x H1 => gName i x σ H1 D.nx) := hyp
  show wpAny _ X.A (comprehension (.DictComp kx vx [⟨tg, iter, ifs, 0⟩] scope pos) scope X.env (firstIterPos [⟨tg, iter, ifs, 0⟩] pos) newDict false (eval iter X.env) (some (assign (.Name y py) X.env)) >>= _) _ _ s
  refine wpAny_bind (thn (dc_core (Qf := fun _ s' => SP X pins D .next s') hc hN I hi ok (fun s H C cl fp => (hb s H C cl fp).1) (fun s H C cl fp => (hb s H C cl fp).2.1) (fun s H C cl fp => (hb s H C cl fp).2.2.1) (fun s H C cl fp => (hb s H C cl fp).2.2.2) hs made fun L C t m G J q ns ⟨g0, g1, g2, g3, g4, g5⟩ => ?_) fun _ t done => wpAny_pure (wpAny_pure done))
  /- the name is stored while the comprehension's frame still stands -/
  refine (show wpAny _ _ (assign (.Name y py) X.env (.ref L)) _ _ _ from wpAny_assign_Name (store_ok2 (v := V.ref L) J hN hy (.inl hyl) rfl (fun t2 J2 ⟨c, but, at_⟩ => ?_) (.inr hyl)))
  have apart : C ≠ c := at_.elim (fun z => z ▸ g1) fun z e => g4 y c z e.symm
  exact ⟨m, ns.sameBut but apart, fun _ but3 => ⟨_, G, J2.turned (t' := t2.toks) (fun x o n e => (but3.2 x n).trans e) g0 g1 g3 g4 g5, q⟩⟩
theorem sw_trueD {kx vx : Expr} {gs : List Comprehension} {scope : Scope} {pos py : Pos} {y : Str} {l : Nat} {env : Env} (hk : env.scope.kind = .function) (hy : env.scope.names.lookup y = some .local) (hl : (py.line == pos.line) = true)
    (ha : (scope.names.any fun (n, k) => n == y && (k == .local || k == .cell)) = false) : swapsWith (.DictComp kx vx gs scope pos) (some (.Name y py)) l env = pure true := by
  have kind : env.kindOf y = some .local ∧ env.blockKind = .function := ⟨hy, by simp only [Env.blockKind, hk]; rfl⟩
  simp only [swapsWith, kind, ha, hl, Expr.pos]
  rfl
/-- a tuple that is known to have no dict of its own -/
def PT (H : Hp) (a : Addr) (xs : List V) : Prop := ∃ o : Obj, H a = some (.frz o (.tup xs)) ∧ o.dict = none
theorem PT.same {H H' : Hp} {a : Addr} {xs : List V} (h : PT H a xs) (e : Same H H') : PT H' a xs := let ⟨o, x, d⟩ := h; ⟨o, e a _ x, d⟩
theorem PT.st {K : PySem.W.Frag} {H : Hp} {a : Addr} {xs : List V} (h : PT H a xs) : SqT K H a xs := let ⟨o, x, _⟩ := h; .inl (.inr ⟨o, x⟩)
/-- tuple(list) -/
def rTupP (K : PySem.W.Frag) : List V → Hp → VK → Prop := fun xs H Q => ∃ (p : Addr) (ys : List V), xs = [.ref p] ∧ SqL K H p ys ∧ ∀ (l : Addr) (o : Obj), H l = none → o.dict = none → Q (.ref l) (upd H l (.frz o (.tup ys)))
theorem cr_tupP : CallR X (.type "tuple") (rTupP X.K) := by
  intro pins s σ H xs us Q I r ⟨p, ys, e0, hs, fin⟩
  subst e0
  rw [Vals.ref1 r]
  have ⟨its, rv, pl, size⟩ := I.list hs
  refine call_tuple_list pl.isList (fun g keep => ?_) (by rw [List.size_toArray, ← rv.length]; exact size)
  have kept := I.kept (h' := g) (t' := s.toks) keep
  refine ⟨.ref g.objs.size, _, ?_, rfl, fin _ { cls := .type "tuple", data := .seq its.toArray } (kept.hok.fresh (Nat.le_refl _)) rfl⟩
  exact kept.laid (t' := s.toks) (fun b o e => Heap.get?_push_of_some _ e) (Nat.le_refl _) (show ObjOk X.prog X.w _ _ _ (.frz _ (.tup ys)) from ⟨Heap.get?_push_size _ rfl, size, its, rv, IsTup.new _ _⟩)
/-- dict(tuple of pairs) -/
def rDictT (K : PySem.W.Frag) : List V → Hp → VK → Prop := fun xs H Q => ∃ (a : Addr) (ps : List Addr) (kvs : List (Key × V)), xs = [.ref a] ∧ PT H a (ps.map V.ref) ∧ Paired (fun p kv => SqT K H p [kV kv.1, kv.2]) ps kvs ∧
    ∀ p, H p = none → Q (.ref p) (upd H p (.dK (mergeK [] kvs)))
theorem cr_dictT (hcalm : X.calm = true) : CallR X (.type "dict") (rDictT X.K) := by
  intro pins s σ H xs us Q I r ⟨a, ps, kvs, e0, ⟨o, ho, hdn⟩, hp, q⟩
  subst e0
  rw [Vals.ref1 r]
  obtain ⟨hg, hz, its, rv, o', hg', hcl, n, hdat⟩ := (show ObjOk X.prog X.w H s.heap a (.frz o (.tup (ps.map V.ref))) from I.hok a _ ho)
  obtain rfl : o = o' := Option.some.inj (hg.symm.trans hg')
  have ei := refs_at rv
  subst ei
  rw [List.length_map] at hz
  have ⟨prs, rel, hl, hpr⟩ := pairs_of I hp
  have key : ∃ qs : List (Value × Value), qs.length = prs.length ∧ ∀ (j : Nat) (k v : Value), qs[j]? = some (k, v) → ∃ q, prs[j]? = some q ∧ q.2 = v ∧ ∃ b, ps[j]? = some b ∧ IsTup s.heap b #[k, v] ∧ keyIs q.1 k = true := by
    clear q rel
    have : ∀ (n : Nat), n ≤ prs.length → ∃ qs : List (Value × Value), qs.length = n ∧ ∀ (j : Nat) (k v : Value), qs[j]? = some (k, v) → ∃ q, prs[j]? = some q ∧ q.2 = v ∧ ∃ b, ps[j]? = some b ∧ IsTup s.heap b #[k, v] ∧ keyIs q.1 k = true := by
      intro n
      induction n with
      | zero => exact fun _ => ⟨[], rfl, fun j k v e => by simp at e⟩
      | succ n ih =>
        intro hn
        obtain ⟨qs, l1, h1⟩ := ih (by omega)
        obtain ⟨b, u, e1, e2, e3⟩ := hpr n prs[n] (by simp)
        refine ⟨qs ++ [(u, prs[n].2)], by simp [l1], fun j k v e => ?_⟩
        by_cases hj : j < qs.length
        · rw [List.getElem?_append_left hj] at e
          exact h1 j k v e
        · rw [List.getElem?_append_right (by omega)] at e
          have hj0 : j - qs.length = 0 := by
            rcases Nat.eq_zero_or_pos (j - qs.length) with z | z
            · exact z
            · rw [List.getElem?_eq_none (by simp; omega)] at e
              cases e
          rw [hj0] at e
          have ej : j = n := by omega
          subst ej
          simp only [List.getElem?_cons_zero, Option.some.injEq, Prod.mk.injEq] at e
          obtain ⟨rfl, rfl⟩ := e
          exact ⟨prs[j], by simp, rfl, b, e1, e2, e3⟩
    exact this _ (Nat.le_refl _)
  obtain ⟨qs, lq, hqs⟩ := key
  refine PySem.call_dict_pairs (knd := mixKind X.prog X.w) (kvs := prs) (PairArg.tuple a (ps.map Value.ref).toArray (fun j => ps.getD j 0) qs) (I.ok.hd hcalm) ⟨⟨o, n, hg, hcl, hdn, hdat⟩, by simp [lq, hl], fun j k v e => ?_⟩ ⟨lq.symm, fun j k v e => ?_⟩ (by rw [lq, hl]; exact hz) fun h' tk hd' k => ?_
  · obtain ⟨q', e1, e2, b, e3, e4, e5⟩ := hqs j k v e
    have eb : ps.getD j 0 = b := by rw [List.getD_eq_getElem?_getD, e3]; rfl
    refine ⟨by simp [e3], .inl ?_⟩
    show s.heap.IsTuple (ps.getD j 0) _
    rw [eb]
    exact e4
  · obtain ⟨q', e1, e2, b, e3, e4, e5⟩ := hqs j k v e
    exact ⟨q'.1, by rw [e1, ← e2], e5⟩
  · have few : (mergeK [] kvs).length ≤ sizeLine := Nat.le_trans (length_mergeK kvs []) (by simpa [rel.length, hl] using hz)
    refine ⟨.ref s.heap.objs.size, upd H s.heap.objs.size (.dK (mergeK [] kvs)), ?_, rfl, q _ (I.hok.fresh (Nat.le_refl _))⟩
    exact I.laid (t' := tk) (fun b o e => k b o (by simp) e) (Nat.le_refl _) (show ObjOk X.prog X.w _ _ _ (.dK (mergeK [] kvs)) from ⟨few, beq_eq_false_iff_ne.mpr (Nat.ne_of_gt I.big), merged [] prs, KV.merge rel .nil, hd'⟩)
end
end Tc
/-! a dict of worths by keys, and what changes do to it -/
namespace Tc
open PySem PySem.Spec PyProof.Rows L2
def fset (f : Int → Option Int) (k : Int) (o : Option Int) : Int → Option Int := fun j => if j = k then o else f j
def appl (f : Int → Option Int) (cs : List (Int × Option Int)) : Int → Option Int := cs.foldl (fun f c => fset f c.1 c.2) f
theorem appl_app (f : Int → Option Int) (a b : List (Int × Option Int)) : appl f (a ++ b) = appl (appl f a) b := by
  unfold appl
  rw [List.foldl_append]
/-- keys that are not told stay -/
theorem appl_out : ∀ (cs : List (Int × Option Int)) (f : Int → Option Int) (k : Int), (∀ c ∈ cs, c.1 ≠ k) → appl f cs k = f k
  | [], _, _, _ => rfl
  | c :: cs, f, k, h => by
    show appl (fset f c.1 c.2) cs k = f k
    rw [appl_out cs _ k fun c' m => h c' (List.mem_cons_of_mem _ m)]
    exact if_neg fun e => h c List.mem_cons_self e.symm
/-- keys that are told don't hang on what was ahead -/
theorem appl_in : ∀ (cs : List (Int × Option Int)) (f g : Int → Option Int) (k : Int), (∃ c ∈ cs, c.1 = k) ∨ f k = g k → appl f cs k = appl g cs k
  | [], _, _, _, h => by
    rcases h with ⟨c, m, _⟩ | h
    · cases m
    · exact h
  | c :: cs, f, g, k, h => by
    show appl (fset f c.1 c.2) cs k = appl (fset g c.1 c.2) cs k
    refine appl_in cs _ _ k ?_
    by_cases e : k = c.1
    · right
      unfold fset
      rw [if_pos e, if_pos e]
    · rcases h with ⟨c', m, e'⟩ | h
      · rcases List.mem_cons.mp m with z | m
        · subst z
          exact absurd e'.symm e
        · exact .inl ⟨c', m, e'⟩
      · right
        unfold fset
        rw [if_neg e, if_neg e]
        exact h
structure DI (ks : List Int) (kvs : List (Key × V)) (f : Int → Option Int) : Prop where
  nd : (kvs.map (·.1)).Nodup
  inn : ∀ p ∈ kvs, ∃ k ∈ ks, p.1 = Sum.inl k
  val : ∀ k, valV kvs (Sum.inl k) = (f k).map V.int
theorem DI.nil {ks : List Int} : DI ks [] fun _ => none := ⟨List.nodup_nil, fun p m => (by cases m), fun k => rfl⟩
theorem valV_drop {k j : Key} : ∀ kvs : List (Key × V), valV (dropK kvs k) j = if j = k then none else valV kvs j
  | [] => by
    show valV [] j = _
    rw [valV_nil]
    split <;> rfl
  | p :: r => by
    by_cases e : p.1 = k
    · rw [dropK_pos e, valV_drop r]
      by_cases h : j = k
      · rw [if_pos h, if_pos h]
      · rw [if_neg h, if_neg h, valV_neg fun z => h (z.symm.trans e)]
    · rw [dropK_neg e]
      by_cases h : p.1 = j
      · rw [valV_pos h, valV_pos h, if_neg fun z => e (h.trans z)]
      · rw [valV_neg h, valV_neg h, valV_drop r]
theorem mem_putK {kvs : List (Key × V)} {k : Key} {v : V} {p : Key × V} (h : p ∈ putK kvs k v) : p.1 = k ∨ ∃ q ∈ kvs, q.1 = p.1 := by
  unfold putK at h
  split at h
  · obtain ⟨q, m, rfl⟩ := List.mem_map.mp h
    refine .inr ⟨q, m, ?_⟩
    split <;> rfl
  · rcases List.mem_append.mp h with h | h
    · exact .inr ⟨p, h, rfl⟩
    · rw [List.mem_singleton.mp h]
      exact .inl rfl
theorem putK_old {kvs : List (Key × V)} {k : Key} {v : V} (h : (valV kvs k).isSome = true) : (putK kvs k v).map (·.1) = kvs.map (·.1) := by
  unfold putK
  rw [if_pos (by rw [valV_any]; exact h), List.map_map]
  refine List.map_congr_left fun p _ => ?_
  show (if p.1 = k then (p.1, v) else p).1 = p.1
  split <;> rfl
section
variable {ks : List Int} {kvs : List (Key × V)} {f : Int → Option Int} {k : Int} {w : Int}
theorem DI.put (h : DI ks kvs f) (hk : k ∈ ks) : DI ks (putK kvs (.inl k) (.int w)) (fset f k (some w)) := by
  refine ⟨?_, fun p m => ?_, fun j => ?_⟩
  · cases e : valV kvs (.inl k) with
    | none => exact nd_putK _ h.nd e
    | some v => rw [putK_old (by rw [e]; rfl)]; exact h.nd
  · rcases mem_putK m with e | ⟨q, m, e⟩
    · exact ⟨k, hk, e⟩
    · obtain ⟨j, hj, e'⟩ := h.inn q m
      exact ⟨j, hj, e ▸ e'⟩
  · rw [valV_put, h.val]
    unfold fset
    by_cases e : j = k
    · rw [if_pos e, if_pos (by rw [e])]
      rfl
    · rw [if_neg e, if_neg fun z => e (Sum.inl.inj z)]
theorem DI.drop (h : DI ks kvs f) : DI ks (dropK kvs (.inl k)) (fset f k none) := by
  refine ⟨nd_dropK h.nd, fun p m => h.inn p (dropK_mem m), fun j => ?_⟩
  rw [valV_drop, h.val]
  unfold fset
  by_cases e : j = k
  · rw [if_pos e, if_pos (by rw [e])]
    rfl
  · rw [if_neg e, if_neg fun z => e (Sum.inl.inj z)]
theorem DI.gone (h : DI ks kvs f) (hk : f k = none) : DI ks kvs (fset f k none) := ⟨h.nd, h.inn, fun j => by
  rw [h.val]
  unfold fset
  by_cases e : j = k
  · rw [if_pos e, e, hk]
  · rw [if_neg e]⟩
end
theorem len_sub {α : Type} [DecidableEq α] : ∀ {l m : List α}, l.Nodup → (∀ x ∈ l, x ∈ m) → l.length ≤ m.length
  | [], _, _, _ => Nat.zero_le _
  | x :: l, m, hn, hs => by
    obtain ⟨h1, h2⟩ := List.nodup_cons.mp hn
    have hx : x ∈ m := hs x List.mem_cons_self
    have := len_sub (l := l) (m := m.erase x) h2 fun y hy => (List.mem_erase_of_ne (a := y) (b := x) fun (e : y = x) => h1 (e ▸ hy)).mpr (hs y (List.mem_cons_of_mem _ hy))
    rw [List.length_erase_of_mem hx] at this
    have hp := List.length_pos_of_mem hx
    rw [List.length_cons]
    omega
theorem inls : ∀ {l : List Key}, (∀ x ∈ l, ∃ k, x = Sum.inl k) → ∃ js : List Int, l = js.map Sum.inl
  | [], _ => ⟨[], rfl⟩
  | x :: l, h => by
    obtain ⟨k, rfl⟩ := h x List.mem_cons_self
    obtain ⟨js, rfl⟩ := inls fun y m => h y (List.mem_cons_of_mem _ m)
    exact ⟨k :: js, rfl⟩
theorem valV_memI {kvs : List (Key × V)} {k : Key} : k ∈ kvs.map (·.1) ↔ (valV kvs k).isSome = true := by
  rw [← valV_any, List.any_eq_true, List.mem_map]
  constructor
  · rintro ⟨p, m, e⟩
    exact ⟨p, m, decide_eq_true e⟩
  · rintro ⟨p, m, e⟩
    exact ⟨p, m, of_decide_eq_true e⟩
theorem DI.keys {ks : List Int} {kvs : List (Key × V)} {f : Int → Option Int} (h : DI ks kvs f) : ∃ js : List Int, kvs.map (·.1) = js.map Sum.inl ∧ js.Nodup ∧ (∀ k, k ∈ js ↔ (f k).isSome = true) ∧ js.length ≤ ks.length := by
  obtain ⟨js, e⟩ := inls (l := kvs.map (·.1)) fun x m => by
    obtain ⟨p, hp, rfl⟩ := List.mem_map.mp m
    obtain ⟨k, _, e⟩ := h.inn p hp
    exact ⟨k, e⟩
  have nd : js.Nodup := by
    have := h.nd
    rw [e] at this
    exact (List.pairwise_map.mp this).imp fun {a b} z e => z (congrArg _ e)
  have mem : ∀ k, k ∈ js ↔ (f k).isSome = true := fun k => by
    have := valV_memI (kvs := kvs) (k := .inl k)
    rw [e, h.val, Option.isSome_map] at this
    rw [← this, List.mem_map]
    constructor
    · exact fun m => ⟨k, m, rfl⟩
    · rintro ⟨j, m, z⟩
      cases z
      exact m
  refine ⟨js, e, nd, mem, len_sub nd fun x hx => ?_⟩
  have : (Sum.inl x : Key) ∈ kvs.map (·.1) := e ▸ List.mem_map.mpr ⟨x, hx, rfl⟩
  obtain ⟨p, hp, e'⟩ := List.mem_map.mp this
  obtain ⟨k, hk, e''⟩ := h.inn p hp
  cases (e'.symm.trans e'' : (Sum.inl x : Key) = Sum.inl k)
  exact hk
theorem DI.len {ks : List Int} {kvs : List (Key × V)} {f : Int → Option Int} (h : DI ks kvs f) : kvs.length ≤ ks.length := by
  obtain ⟨js, e, _, _, l⟩ := h.keys
  have := congrArg List.length e
  rw [List.length_map, List.length_map] at this
  omega
/-- the keys that have a worth, rising -/
def KeysOf (f : Int → Option Int) (js : List Int) : Prop := js.Pairwise (· < ·) ∧ ∀ k, k ∈ js ↔ (f k).isSome = true
theorem KeysOf.one {f : Int → Option Int} {a b : List Int} (h : KeysOf f a) (h' : KeysOf f b) : a = b := rising_one a b h.1 h'.1 fun k => (h.2 k).trans (h'.2 k).symm
theorem lt_of_le_nodup {js : List Int} (h : js.Pairwise (· ≤ ·)) (hn : js.Nodup) : js.Pairwise (· < ·) := by
  have : js.Pairwise fun a b => a ≤ b ∧ a ≠ b := List.Pairwise.and h hn
  exact this.imp fun {a b} z => by omega
/-- the rows of f -/
def rowsOf (f : Int → Option Int) (js : List Int) : List (Int × Int) := js.map fun k => (k, (f k).getD 0)
/-- what the rows make of nothing -/
def fRows (rs : List (Int × Int)) : Int → Option Int := appl (fun _ => none) (rs.map fun r => (r.1, some r.2))
theorem appl_rows (f : Int → Option Int) : ∀ (js : List Int) (g : Int → Option Int) (k : Int), (∀ k ∈ js, (f k).isSome = true) → appl g ((rowsOf f js).map fun r => (r.1, some r.2)) k = if k ∈ js then f k else g k
  | [], g, k, _ => by
    rw [if_neg (by simp)]
    rfl
  | j :: js, g, k, h => by
    show appl (fset g j (some ((f j).getD 0))) ((rowsOf f js).map fun r => (r.1, some r.2)) k = _
    rw [appl_rows f js _ k fun k m => h k (List.mem_cons_of_mem _ m)]
    by_cases m : k ∈ js
    · rw [if_pos m, if_pos (List.mem_cons_of_mem _ m)]
    · rw [if_neg m]
      unfold fset
      by_cases e : k = j
      · subst e
        rw [if_pos rfl, if_pos List.mem_cons_self]
        have := h k List.mem_cons_self
        cases hf : f k with
        | none => rw [hf] at this; cases this
        | some w => rfl
      · rw [if_neg e, if_neg fun z => (List.mem_cons.mp z).elim e m]
/-- the rows of f make f -/
theorem fRows_of {f : Int → Option Int} {js : List Int} (h : KeysOf f js) : fRows (rowsOf f js) = f := by
  funext k
  unfold fRows
  rw [appl_rows f js _ k fun k m => (h.2 k).mp m]
  by_cases m : k ∈ js
  · rw [if_pos m]
  · rw [if_neg m]
    cases e : f k with
    | none => rfl
    | some w => exact absurd ((h.2 k).mpr (by rw [e]; rfl)) m
end Tc
/-! changes, entries and logs as data; promises of what the program makes of them -/
namespace Tc
open PySem L2 Evl
def chD : PyData → Int × Option Int
  | .tuple [.str _, .int k] => (k, none)
  | .tuple [.str _, .int k, .int w] => (k, some w)
  | _ => (0, none)
def goodCh (ks : List Int) : PyData → Bool
  | .tuple [.str s, .int k] => decide (s = "drop") && decide (k ∈ ks)
  | .tuple [.str s, .int k, .int w] => decide (s = "put") && (decide (k ∈ ks) && decide (0 ≤ w ∧ w < 1000))
  | _ => false
def chsD : PyData → List PyData
  | .tuple [.str _, .tuple cs] => cs
  | _ => []
def goodEn (ks : List Int) : PyData → Bool
  | .tuple [.str s, .tuple cs] => decide (s = "group") && cs.all (goodCh ks)
  | .tuple [.str s, .int _, .int _] => !decide (s = "group") && PyData.strOk s
  | _ => false
def enD (d : PyData) : List (Int × Option Int) := (chsD d).map chD
def lgD (ds : List PyData) : List (Int × Option Int) := ds.flatMap enD
theorem lgD_app (a b : List PyData) : lgD (a ++ b) = lgD a ++ lgD b := List.flatMap_append
theorem lgD_snoc (a : List PyData) (d : PyData) : lgD (a ++ [d]) = lgD a ++ enD d := by
  rw [lgD_app]
  congr 1
  exact List.append_nil _
def pairD (r : Int × Int) : PyData := .tuple [.int r.1, .int r.2]
def rowsD (rs : List (Int × Int)) : PyData := .tuple (rs.map pairD)
section
variable {K : PySem.W.Frag} {H H' : Hp} {D : Addr} {kvs : List (Key × V)}
/-- all but the dict at D stays -/
def Bar (D : Addr) (H H' : Hp) : Prop := ∀ a o, a ≠ D → H a = some o → H' a = some o
theorem Bar.refl (D : Addr) (H : Hp) : Bar D H H := fun _ _ _ h => h
theorem Bar.trans {H1 H2 : Hp} (a : Bar D H H1) (b : Bar D H1 H2) : Bar D H H2 := fun x o n h => b x o n (a x o n h)
theorem Bar.ex (e : Ex H H') : Bar D H H' := fun x o _ h => e x o h
theorem Bar.put (e : Bar D H H') {o : HO} : Bar D H (upd H' D o) := fun x u n h => by
  rw [upd_ne n]
  exact e x u n h
theorem Bar.exOf {H0 : Hp} (e : Bar D H H') (h0 : Ex H0 H) (hD : H0 D = none) : Ex H0 H' := fun a o h => e a o (fun z => by
  subst z
  rw [hD] at h
  cases h) (h0 a o h)
theorem bar_rd {a : Addr} {u : HO} (hD : H D = some (.dK kvs)) (e : Bar D H H') (hu : ∀ kvs, u ≠ .dK kvs) (hf : ∀ o kvs', HO.frz o u ≠ .dK kvs') (h : Rd H a u) : Rd H' a u := by
  rcases h with h | ⟨o, h⟩
  · exact .inl (e a _ (fun z => by
      subst z
      rw [hD] at h
      exact hu _ (Option.some.inj h).symm) h)
  · exact .inr ⟨o, e a _ (fun z => by
      subst z
      rw [hD] at h
      cases h) h⟩
theorem bar_t {a : Addr} {xs : List V} (hD : H D = some (.dK kvs)) (e : Bar D H H') (h : SqT K H a xs) : SqT K H' a xs := by
  rcases h with h | h
  · exact .inl (bar_rd hD e (fun _ z => nomatch z) (fun _ _ z => nomatch z) h)
  · exact .inr h
theorem bar_l {a : Addr} {xs : List V} (hD : H D = some (.dK kvs)) (e : Bar D H H') (h : SqL K H a xs) : SqL K H' a xs := by
  rcases h with h | h
  · exact .inl (bar_rd hD e (fun _ z => nomatch z) (fun _ _ z => nomatch z) h)
  · exact .inr h
mutual
theorem dp_bar (hD : H D = some (.dK kvs)) (e : Bar D H H') : ∀ (d : PyData) (v : V), Dp K H v d → Dp K H' v d
  | _, _, .non => .non
  | _, _, .bl b => .bl b
  | _, _, .int i => .int i
  | _, _, .str x => .str x
  | _, _, .lst h r => .lst (bar_l hD e h) (dps_bar hD e _ _ r)
  | _, _, .tup h r => .tup (bar_t hD e h) (dps_bar hD e _ _ r)
theorem dps_bar (hD : H D = some (.dK kvs)) (e : Bar D H H') : ∀ (ds : List PyData) (vs : List V), DpAll K H vs ds → DpAll K H' vs ds
  | _, _, .nil => .nil
  | _, _, .cons h r => .cons (dp_bar hD e _ _ h) (dps_bar hD e _ _ r)
end
/-- a table told by the program: a tuple without a dict, of pairs -/
def TP (K : PySem.W.Frag) (H : Hp) (p : Addr) (rs : List (Int × Int)) : Prop := ∃ xs, PT H p xs ∧ DpAll K H xs (rs.map pairD)
theorem TP.same {p : Addr} {rs : List (Int × Int)} (h : TP K H p rs) (e : Same H H') : TP K H' p rs := let ⟨xs, a, b⟩ := h; ⟨xs, a.same e, dps_same e _ _ b⟩
theorem TP.dp {p : Addr} {rs : List (Int × Int)} (h : TP K H p rs) : Dp K H (.ref p) (rowsD rs) := let ⟨_, a, b⟩ := h; .tup a.st b
theorem pairs_dp : ∀ {rs : List (Int × Int)} {xs : List V}, DpAll K H xs (rs.map pairD) → ∃ ps : List Addr, xs = ps.map V.ref ∧ Paired (fun p (kv : Key × V) => SqT K H p [kV kv.1, kv.2]) ps (rs.map fun r => ((Sum.inl r.1 : Key), V.int r.2))
  | [], _, h => by
    cases h
    exact ⟨[], rfl, .nil⟩
  | r :: rs, xs, h => by
    rw [List.map_cons] at h
    cases h with
    | cons a t =>
      obtain ⟨ps, rfl, p⟩ := pairs_dp t
      unfold pairD at a
      cases a with
      | tup hs hh =>
        cases hh with
        | cons h1 t1 =>
          cases t1 with
          | cons h2 t2 =>
            cases t2
            cases h1
            cases h2
            exact ⟨_ :: ps, rfl, .cons hs p⟩
theorem merge_rows {ks : List Int} : ∀ (rs : List (Int × Int)) (kvs : List (Key × V)) (f : Int → Option Int), (∀ r ∈ rs, r.1 ∈ ks) → DI ks kvs f → DI ks (mergeK kvs (rs.map fun r => ((Sum.inl r.1 : Key), V.int r.2))) (appl f (rs.map fun r => (r.1, some r.2)))
  | [], _, _, _, h => h
  | r :: rs, kvs, f, hk, h => merge_rows rs (putK kvs (.inl r.1) (.int r.2)) (fset f r.1 (some r.2)) (fun r' m => hk r' (List.mem_cons_of_mem _ m)) (h.put (hk r List.mem_cons_self))
end
/-- the changes of an entry -/
def spChsOf (K : PySem.W.Frag) : Sp := fun vs H Q _ => ∃ (v : V) (d : PyData) (ks : List Int), vs = [v] ∧ Dp K H v d ∧ goodEn ks d = true ∧ ∀ (q : Addr) (us : List V) (H' : Hp), Ex H H' → SqT K H' q us → DpAll K H' us (chsD d) → Q (.ref q) H'
/-- a good log at l -/
structure LogAt (K : PySem.W.Frag) (H : Hp) (l : Addr) (ks : List Int) (ds : List PyData) : Prop where
  ex : ∃ us, SqL K H l us ∧ DpAll K H us ds
  good : ∀ d ∈ ds, goodEn ks d = true
theorem LogAt.same {K : PySem.W.Frag} {H H' : Hp} {l : Addr} {ks : List Int} {ds : List PyData} (h : LogAt K H l ks ds) (e : Same H H') : LogAt K H' l ks ds := ⟨let ⟨us, a, b⟩ := h.ex; ⟨us, Evl.ex_l e a, dps_same e _ _ b⟩, h.good⟩
/-- the entries from place lo up to place hi, done -/
def spCarry (K : PySem.W.Frag) : Sp := fun vs H Q _ => ∃ (D l : Addr) (ks : List Int) (kvs : List (Key × V)) (f : Int → Option Int) (ds : List PyData) (lo hi : Nat), vs = [.ref D, .ref l, .int (lo : Int), .int (hi : Int)] ∧ H D = some (.dK kvs) ∧ DI ks kvs f ∧ ks.length < 64 ∧ LogAt K H l ks ds ∧ lo ≤ hi ∧
  ∀ kvs' H', Bar D H H' → H' D = some (.dK kvs') → DI ks kvs' (appl f (lgD ((ds.drop lo).take (hi - lo)))) → Q .non H'
/-- the rows behind so many entries -/
def spRowsAt (K : PySem.W.Frag) : Sp := fun vs H Q _ => ∃ (v : V) (rs : List (Int × Int)) (l : Addr) (ks : List Int) (ds : List PyData) (n : Nat), vs = [v, .ref l, .int (n : Int)] ∧ Dp K H v (rowsD rs) ∧ (∀ r ∈ rs, r.1 ∈ ks) ∧ ks.length < 64 ∧ LogAt K H l ks ds ∧ n ≤ ds.length ∧
  ∀ D kvs H', H D = none → Ex H H' → H' D = some (.dK kvs) → DI ks kvs (appl (fRows rs) (lgD (ds.take n))) → Q (.ref D) H'
def spTabAt (K : PySem.W.Frag) : Sp := fun vs H Q _ => ∃ (v : V) (rs : List (Int × Int)) (l : Addr) (ks : List Int) (ds : List PyData) (n : Nat), vs = [v, .ref l, .int (n : Int)] ∧ Dp K H v (rowsD rs) ∧ (∀ r ∈ rs, r.1 ∈ ks) ∧ ks.length < 64 ∧ LogAt K H l ks ds ∧ n ≤ ds.length ∧
  ∀ p js H', H p = none → Ex H H' → KeysOf (appl (fRows rs) (lgD (ds.take n))) js → (∀ j ∈ js, j ∈ ks) → TP K H' p (rowsOf (appl (fRows rs) (lgD (ds.take n))) js) → Q (.ref p) H'
/-- a place that is one -/
def spPlace (K : PySem.W.Frag) : Sp := fun vs H Q _ => ∃ (l : Addr) (us : List V) (n : Nat), vs = [.ref l, .int (n : Int)] ∧ SqL K H l us ∧ n ≤ us.length ∧ ∀ H', Ex H H' → Q .non H'
/-- the keys told -/
def spChanged (K : PySem.W.Frag) : Sp := fun vs H Q _ => ∃ (l : Addr) (ks : List Int) (ds : List PyData) (lo hi : Nat), vs = [.ref l, .int (lo : Int), .int (hi : Int)] ∧ ks.length < 64 ∧ LogAt K H l ks ds ∧ lo ≤ hi ∧ hi ≤ ds.length ∧
  ∀ p (js : List Int) H', H p = none → Ex H H' → H' p = some (.lst (js.map V.int)) → js.Pairwise (· < ·) → (∀ k, k ∈ js ↔ ∃ c ∈ lgD ((ds.drop lo).take (hi - lo)), c.1 = k) → Q (.ref p) H'
end Tc
/-! tuples of leaves and tuples stay while a list is changed -/
namespace Tc
open PySem L2 Evl
def nl : Nat → PyData → Bool
  | _, .list _ => false
  | 0, .tuple _ => false
  | n + 1, .tuple ds => ds.all (nl n)
  | _, _ => true
section
variable {K : PySem.W.Frag} {H H' : Hp} {b : Addr} {bs : List V}
theorem lst_t {a : Addr} {xs : List V} (hb : H b = some (.lst bs)) (e : Bar b H H') (h : SqT K H a xs) : SqT K H' a xs := by
  rcases h with (h | ⟨o, h⟩) | h
  · exact .inl (.inl (e a _ (fun z => by
      subst z
      rw [hb] at h
      cases h) h))
  · exact .inl (.inr ⟨o, e a _ (fun z => by
      subst z
      rw [hb] at h
      cases h) h⟩)
  · exact .inr h
theorem lst_l {a : Addr} {xs : List V} (e : Bar b H H') (ha : a ≠ b) (h : SqL K H a xs) : SqL K H' a xs := by
  rcases h with (h | ⟨o, h⟩) | h
  · exact .inl (.inl (e a _ ha h))
  · exact .inl (.inr ⟨o, e a _ ha h⟩)
  · exact .inr h
theorem dps_each : ∀ {ds : List PyData} {vs : List V}, (∀ d ∈ ds, ∀ v, Dp K H v d → Dp K H' v d) → DpAll K H vs ds → DpAll K H' vs ds
  | _, _, _, .nil => .nil
  | _, _, f, .cons h t => .cons (f _ List.mem_cons_self _ h) (dps_each (fun d m => f d (List.mem_cons_of_mem _ m)) t)
theorem dp_nl (hb : H b = some (.lst bs)) (e : Bar b H H') : ∀ (n : Nat) (d : PyData) (v : V), nl n d = true → Dp K H v d → Dp K H' v d
  | 0, d, v, g, h => by
    cases h with
    | non => exact .non
    | bl b => exact .bl b
    | int i => exact .int i
    | str x => exact .str x
    | lst => cases g
    | tup => cases g
  | n + 1, d, v, g, h => by
    cases h with
    | non => exact .non
    | bl b => exact .bl b
    | int i => exact .int i
    | str x => exact .str x
    | lst => cases g
    | tup hs r => exact .tup (lst_t hb e hs) (dps_each (fun d m v => dp_nl hb e n d v (List.all_eq_true.mp g d m)) r)
theorem nl_rows (rs : List (Int × Int)) : nl 2 (rowsD rs) = true := by
  show (rs.map pairD).all (nl 1) = true
  rw [List.all_eq_true]
  intro d m
  obtain ⟨r, _, rfl⟩ := List.mem_map.mp m
  rfl
theorem nl_ch {ks : List Int} {d : PyData} (h : goodCh ks d = true) : nl 1 d = true := by
  unfold goodCh at h
  split at h
  · rfl
  · rfl
  · cases h
theorem nl_en {ks : List Int} {d : PyData} (h : goodEn ks d = true) : nl 3 d = true := by
  unfold goodEn at h
  split at h
  · rename_i s cs
    rw [Bool.and_eq_true, List.all_eq_true] at h
    show (nl 2 (.str s) && (nl 2 (.tuple cs) && true)) = true
    rw [show nl 2 (.tuple cs) = true from List.all_eq_true.mpr fun d m => nl_ch (h.2 d m)]
    rfl
  · rfl
  · cases h
theorem Fr.bar (f : Fr b H H') : Bar b H H' := fun a o n h => f.at h n
theorem LogAt.bar {l : Addr} {ks : List Int} {ds : List PyData} (h : LogAt K H l ks ds) (hb : H b = some (.lst bs)) (e : Bar b H H') (hl : l ≠ b) : LogAt K H' l ks ds :=
  ⟨let ⟨us, x, y⟩ := h.ex; ⟨us, lst_l e hl x, dps_each (fun d m v => dp_nl hb e 3 d v (nl_en (h.good d m))) y⟩, h.good⟩
theorem dp_rows {v : V} {rs : List (Int × Int)} (h : Dp K H v (rowsD rs)) (hb : H b = some (.lst bs)) (e : Bar b H H') : Dp K H' v (rowsD rs) := dp_nl hb e 2 _ v (nl_rows rs) h
theorem TP.bar {p : Addr} {rs : List (Int × Int)} (h : TP K H p rs) (hb : H b = some (.lst bs)) (e : Bar b H H') : TP K H' p rs := by
  obtain ⟨xs, ⟨o, a, d⟩, r⟩ := h
  exact ⟨xs, ⟨o, e p _ (fun z => by
    subst z
    rw [hb] at a
    cases a) a, d⟩, dps_each (fun d m v => dp_nl hb e 1 d v (by
      obtain ⟨r, _, rfl⟩ := List.mem_map.mp m
      rfl)) r⟩
theorem Bag.lst (h : Bag H b) : ∃ bs, H b = some (.lst bs) := let ⟨_, _, e, _⟩ := h; ⟨_, e⟩
end
/-- rows of a table drawn -/
def goodRow (ks : List Int) : PyData → Bool
  | .tuple [.int k, .int w] => decide (k ∈ ks) && decide (0 ≤ w ∧ w < 1000)
  | _ => false
theorem good_rows {ks : List Int} : ∀ {ds : List PyData}, (∀ d ∈ ds, goodRow ks d = true) → ∃ rs : List (Int × Int), ds = rs.map pairD ∧ (∀ r ∈ rs, r.1 ∈ ks) ∧ ∀ r ∈ rs, 0 ≤ r.2 ∧ r.2 < 1000
  | [], _ => ⟨[], rfl, fun r m => (by cases m), fun r m => by cases m⟩
  | d :: ds, h => by
    obtain ⟨rs, e, hr, hw⟩ := good_rows fun d' m => h d' (List.mem_cons_of_mem _ m)
    have hd := h d List.mem_cons_self
    unfold goodRow at hd
    split at hd
    · rename_i k w
      rw [Bool.and_eq_true] at hd
      refine ⟨(k, w) :: rs, by rw [e]; rfl, fun r m => ?_, fun r m => ?_⟩
      · rcases List.mem_cons.mp m with z | z
        · rw [z]
          exact of_decide_eq_true hd.1
        · exact hr r z
      · rcases List.mem_cons.mp m with z | z
        · rw [z]
          exact of_decide_eq_true hd.2
        · exact hw r z
    · cases hd
def spTabQ (K : PySem.W.Frag) : Sp := fun vs H Q _ => ∃ (b l : Addr) (ks : List Int), vs = [.ref b, .ref l] ∧ Bag H b ∧ KeysAt b H l ks ∧ ∀ v rs H', Fr b H H' → Dp K H' v (rowsD rs) → (∀ r ∈ rs, r.1 ∈ ks) → Q v H'
def spKeysQ : Sp := fun vs H Q _ => ∃ b : Addr, vs = [.ref b] ∧ Bag H b ∧ ∀ l (ks : List Int) H', Fr b H H' → KeysAt b H' l ks → ks.length < 64 → Q (.ref l) H'
/-- drawn changes, an entry, a log, their keys among ks -/
def spChsQ (K : PySem.W.Frag) : Sp := fun vs H Q _ => ∃ (b l : Addr) (ks : List Int) (m : Int) (S : Addr → Prop), vs = [.ref b, .ref l, .int m] ∧ Bag H b ∧ Sok S b H ∧ KeysAt b H l ks ∧ 1 ≤ m ∧ m ≤ 6 ∧
  ∀ v ds H', Fr b H H' → Dp K (cut S H') v (.tuple ds) → (∀ d ∈ ds, goodCh ks d = true) → Q v H'
def spEntQ (K : PySem.W.Frag) : Sp := fun vs H Q _ => ∃ (b l : Addr) (ks : List Int) (S : Addr → Prop), vs = [.ref b, .ref l] ∧ Bag H b ∧ Sok S b H ∧ KeysAt b H l ks ∧ ∀ v d H', Fr b H H' → Dp K (cut S H') v d → goodEn ks d = true → Q v H'
def spLgQ (K : PySem.W.Frag) : Sp := fun vs H Q _ => ∃ (b l : Addr) (ks : List Int) (m : Int), vs = [.ref b, .ref l, .int m] ∧ Bag H b ∧ KeysAt b H l ks ∧ 0 ≤ m ∧ m ≤ 100 ∧ ∀ p us ds H', H p = none → p ≠ b → Fr b H H' → H' p = some (.lst us) → DpAll K H' us ds → (∀ d ∈ ds, goodEn ks d = true) → (ds.length : Int) ≤ m → Q (.ref p) H'
theorem gq_drop {ks : List Int} {k : Int} (h : k ∈ ks) : goodCh ks (.tuple [.str "drop", .int k]) = true := by
  show (decide ((Str.ofString "drop") = "drop") && decide (k ∈ ks)) = true
  rw [decide_eq_true h]
  decide
theorem gq_put {ks : List Int} {k w : Int} (h : k ∈ ks) (hw : 0 ≤ w ∧ w < 1000) : goodCh ks (.tuple [.str "put", .int k, .int w]) = true := by
  show (decide ((Str.ofString "put") = "put") && (decide (k ∈ ks) && decide (0 ≤ w ∧ w < 1000))) = true
  rw [decide_eq_true h, decide_eq_true hw]
  decide
theorem gq_mark {ks : List Int} {s : Str} {i j : Int} (hs : s = "low" ∨ s = "high") : goodEn ks (.tuple [.str s, .int i, .int j]) = true := by
  show (!decide (s = "group") && PyData.strOk s) = true
  rcases hs with rfl | rfl <;> decide +kernel
theorem gq_group {ks : List Int} {ds : List PyData} (h : ∀ d ∈ ds, goodCh ks d = true) : goodEn ks (.tuple [.str "group", .tuple ds]) = true := by
  show (decide ((Str.ofString "group") = "group") && ds.all (goodCh ks)) = true
  rw [List.all_eq_true.mpr h]
  decide
end Tc
namespace Tc
open PySem L2 Evl
/-- no tuple stands at b -/
def NT (H : Hp) (b : Addr) : Prop := (∀ xs, H b ≠ some (.tup xs)) ∧ ∀ o u, H b ≠ some (.frz o u)
section
variable {K : PySem.W.Frag} {H H' : Hp} {b : Addr}
theorem NT.set {w : World} {S : Int → Bool} {n : Nat} (h : H b = some (SetO w b S n)) : NT H b := by
  refine ⟨fun xs e => ?_, fun o u e => ?_⟩ <;> · rw [h] at e
                                                 cases e
theorem nt_t {a : Addr} {xs : List V} (hb : NT H b) (e : Bar b H H') (h : SqT K H a xs) : SqT K H' a xs := by
  rcases h with (h | ⟨o, h⟩) | h
  · exact .inl (.inl (e a _ (fun z => hb.1 xs (z ▸ h)) h))
  · exact .inl (.inr ⟨o, e a _ (fun z => hb.2 o _ (z ▸ h)) h⟩)
  · exact .inr h
theorem dp_nt (hb : NT H b) (e : Bar b H H') : ∀ (n : Nat) (d : PyData) (v : V), nl n d = true → Dp K H v d → Dp K H' v d
  | 0, d, v, g, h => by
    cases h with
    | non => exact .non
    | bl b => exact .bl b
    | int i => exact .int i
    | str x => exact .str x
    | lst => cases g
    | tup => cases g
  | n + 1, d, v, g, h => by
    cases h with
    | non => exact .non
    | bl b => exact .bl b
    | int i => exact .int i
    | str x => exact .str x
    | lst => cases g
    | tup hs r => exact .tup (nt_t hb e hs) (dps_each (fun d m v => dp_nt hb e n d v (List.all_eq_true.mp g d m)) r)
/-- the turns of a clause, over whatever gives n items one by one and changes nothing by it -/
theorem sc_turns {J : It} {n : Nat} {H0 : Hp} {Z : Hp → Prop} {B : V → Hp → (Hp → Prop) → Prop} (Pv : Nat → Hp → Prop) (R : Nat → V → Prop) (h0 : Pv 0 H0) (go : ∀ i H, i < n → Pv i H → J.go i H ∧ ∀ x H', J.yld i H x H' → H' = H ∧ R i x) (stop : ∀ H, Pv n H → J.stop n H)
    (hs : ∀ i x H, R i x → Pv i H → B x H (Pv (i + 1))) (hd : ∀ H, Pv n H → Z H) :
    ∃ W : Nat → Nat → Hp → Prop, (∃ m, W 0 m H0) ∧ ∀ i m H, W i m H → (J.stop i H ∧ Z H) ∨ (J.go i H ∧ ∃ Nx : Hp → Prop, (∀ H', Nx H' → ∃ m', m' < m ∧ W (i + 1) m' H') ∧ ∀ x H', J.yld i H x H' → B x H' Nx) := by
  refine ⟨fun i m H => i + m = n ∧ Pv i H, ⟨n, Nat.zero_add n, h0⟩, fun i m H ⟨e, p⟩ => ?_⟩
  cases m with
  | zero =>
    obtain rfl : i = n := e
    exact .inl ⟨stop H p, hd H p⟩
  | succ m =>
    have ⟨g, y⟩ := go i H (by omega) p
    refine .inr ⟨g, Pv (i + 1), fun H' p' => ⟨m, Nat.lt_succ_self m, by omega, p'⟩, fun x H' yx => ?_⟩
    obtain ⟨rfl, r⟩ := y x H' yx
    exact hs i x _ r p
theorem sc_list {a : Addr} {xs : List V} {H0 : Hp} {Z : Hp → Prop} {B : V → Hp → (Hp → Prop) → Prop} (Pv : Nat → Hp → Prop) (h0 : Pv 0 H0) (hl : ∀ i H, i ≤ xs.length → Pv i H → SqL K H a xs) (hs : ∀ i x H, xs[i]? = some x → Pv i H → B x H (Pv (i + 1))) (hd : ∀ H, Pv xs.length H → Z H) :
    ∃ W : Nat → Nat → Hp → Prop, (∃ m, W 0 m H0) ∧ ∀ i m H, W i m H → ((Itl K a).stop i H ∧ Z H) ∨ ((Itl K a).go i H ∧ ∃ Nx : Hp → Prop, (∀ H', Nx H' → ∃ m', m' < m ∧ W (i + 1) m' H') ∧ ∀ x H', (Itl K a).yld i H x H' → B x H' Nx) :=
  sc_turns Pv (fun i x => xs[i]? = some x) h0 (fun i H lt p => ⟨⟨xs, xs[i], hl i H (Nat.le_of_lt lt) p, List.getElem?_eq_getElem lt⟩, fun x H' y => ⟨y.1, y.2 xs (hl i H (Nat.le_of_lt lt) p)⟩⟩) (fun H p => ⟨xs, hl _ H (Nat.le_refl _) p, Nat.le_refl _⟩) hs hd
theorem sc_tup {a : Addr} {xs : List V} {H0 : Hp} {Z : Hp → Prop} {B : V → Hp → (Hp → Prop) → Prop} (Pv : Nat → Hp → Prop) (h0 : Pv 0 H0) (hl : ∀ i H, i ≤ xs.length → Pv i H → SqT K H a xs) (hs : ∀ i x H, xs[i]? = some x → Pv i H → B x H (Pv (i + 1))) (hd : ∀ H, Pv xs.length H → Z H) :
    ∃ W : Nat → Nat → Hp → Prop, (∃ m, W 0 m H0) ∧ ∀ i m H, W i m H → ((Itt K a).stop i H ∧ Z H) ∨ ((Itt K a).go i H ∧ ∃ Nx : Hp → Prop, (∀ H', Nx H' → ∃ m', m' < m ∧ W (i + 1) m' H') ∧ ∀ x H', (Itt K a).yld i H x H' → B x H' Nx) :=
  sc_turns Pv (fun i x => xs[i]? = some x) h0 (fun i H lt p => ⟨⟨xs, xs[i], hl i H (Nat.le_of_lt lt) p, List.getElem?_eq_getElem lt⟩, fun x H' y => ⟨y.1, y.2 xs (hl i H (Nat.le_of_lt lt) p)⟩⟩) (fun H p => ⟨xs, hl _ H (Nat.le_refl _) p, Nat.le_refl _⟩) hs hd
end
/-- a set that holds the ints of l, each once -/
def Has (w : World) (D : Addr) (H : Hp) (l : List Int) : Prop := H D = some (SetO w D (fun j => decide (j ∈ l)) l.length) ∧ l.Nodup
theorem Has.more {w : World} {D : Addr} {H : Hp} {l : List Int} (h : Has w D H l) (k : Int) : ∃ l', (∀ j, j ∈ l' ↔ j ∈ l ∨ j = k) ∧ ∀ H', Has w D (upd H' D (setMore w D (fun j => decide (j ∈ l)) l.length k)) l' := by
  by_cases m : k ∈ l
  · refine ⟨l, fun j => ⟨.inl, fun z => z.elim id fun e => e ▸ m⟩, fun H' => ⟨?_, h.2⟩⟩
    rw [upd_same]
    have e1 : (fun j => decide (j ∈ l) || decide (j = k)) = fun j => decide (j ∈ l) := by
      funext j
      by_cases z : j = k
      · subst z
        simp [m]
      · simp [z]
    unfold setMore
    rw [e1, if_pos (decide_eq_true m)]
  · refine ⟨k :: l, fun j => by rw [List.mem_cons]; exact Or.comm, fun H' => ⟨?_, List.nodup_cons.mpr ⟨m, h.2⟩⟩⟩
    rw [upd_same]
    have e1 : (fun j => decide (j ∈ l) || decide (j = k)) = fun j => decide (j ∈ k :: l) := by
      funext j
      rw [Bool.eq_iff_iff, Bool.or_eq_true, decide_eq_true_eq, decide_eq_true_eq, decide_eq_true_eq, List.mem_cons]
      exact Or.comm
    unfold setMore
    rw [e1, if_neg (by simp [m]), List.length_cons]
end Tc
/-! enumerate(tuple), enumerate(tuple, start=k) -/
namespace Tc
open PySem PySem.Spec PyProof.Rows L2
/-- the tuple at a, each item in a new pair with its number, from k on -/
def Itc (K : PySem.W.Frag) (a : Addr) (k : Int) : It :=
  ⟨fun i H => ∃ (xs : List V) (x : V), SqT K H a xs ∧ xs[i]? = some x, fun i H v H' => ∃ (T : Addr) (x : V), v = .ref T ∧ H T = none ∧ H' = upd H T (.tup [.int (k + (i : Int)), x]) ∧ ∀ xs, SqT K H a xs → xs[i]? = some x,
    fun i H => ∃ xs : List V, SqT K H a xs ∧ xs.length = i⟩
/-- how the counter at e and the tuple's iterator at it stand -/
def Cnt (a e it : Addr) (k : Int) (i : Nat) (h : Heap) : Prop := (∃ old, IsEnum h e it (k + (i : Int)) old) ∧ h.IsTupleIter it a i ∧ e ≠ it
theorem Cnt.apart {a e it : Addr} {k : Int} {i : Nat} {h : Heap} {items : Array Value} (c : Cnt a e it k i h) (t : IsTup h a items) : a ≠ it ∧ e ∉ [it, a] := by
  obtain ⟨⟨old, he⟩, ⟨o, ho, hc, _⟩, ne⟩ := c
  obtain ⟨p, hp, pc, _⟩ := t
  refine ⟨fun z => ?_, fun m => ?_⟩
  · subst z
    cases hp.symm.trans ho
    rw [pc] at hc
    exact absurd hc (by decide)
  · rcases List.mem_cons.mp m with z | z
    · exact ne z
    · obtain rfl := List.mem_singleton.mp z
      cases hp.symm.trans he
      exact absurd (show Value.type "enumerate" = Value.type "tuple" from pc) (by decide)
theorem turn_count {P : Program} {w : World} {K : PySem.W.Frag} {elts : List Expr} {kk : Nat} {tpos : Pos} (a e it : Addr) (k : Int) : Turn P w K (.Tuple elts kk tpos) (Itc K a k) [e, it] e (Cnt a e it k) where
  mem := List.mem_cons_self
  obj := fun i h ⟨⟨old, he⟩, ⟨o, ho, _, hd⟩, _⟩ b m => by
    rcases List.mem_cons.mp m with rfl | m
    · exact ⟨_, he, fun v z => nomatch z⟩
    · obtain rfl := List.mem_singleton.mp m
      exact ⟨o, ho, fun v z => by rw [hd] at z; cases z⟩
  keep := fun i h h' ⟨⟨old, he⟩, hi, ne⟩ kp => ⟨⟨old, kp e (by simp) _ he⟩, hi.at fun o z => kp it (by simp) o z, ne⟩
  item := by
    intro X hP hw hK hc i pins s σ H E I fp c ⟨xs, x, hq, hx⟩
    subst hP hw hK
    obtain ⟨its, rv, tup, _⟩ := I.tuple hq
    obtain ⟨u, hu, ru⟩ := rv.get hx
    have ⟨ai, ef⟩ := c.apart tup
    obtain ⟨⟨old, he⟩, hit, ne⟩ := id c
    have lt : i < its.toArray.size := by
      have := (List.getElem?_eq_some_iff.mp hu).1
      simpa using this
    have le : e < s.heap.objs.size := Heap.lt_size he
    have li : it < s.heap.objs.size := let ⟨_, z, _⟩ := hit; Heap.lt_size z
    refine wpAny_pyNext_enum_itemC (Draws.tuple (A := X.A.in1) (I.ok.hd hc) it a ai its.toArray) he ⟨hit, tup⟩ lt ne ef fun y h' tk hy out st new size kp => ⟨_, rfl, ?_⟩
    obtain rfl : u = y := Option.some.inj (hu.symm.trans (by simpa using hy))
    refine wpAny_letOwnedTupleGo_enum (s := { s with heap := h', toks := tk + 1 }) out fun h'' he' but => ?_
    have new2 := (but.2 _ (Nat.ne_of_gt le)).trans new
    have inv : Inv X pins σ (upd H s.heap.objs.size (.tup [.int (k + (i : Int)), x])) { s with heap := h'', toks := tk + 1 } :=
      I.turnedNew (ch := [e, it]) (fun b o n z => (but.2 b fun q => n (by simp [q])).trans (kp b o (fun q => n (by simp [q])) (fun q => n (by simp [q])) z)) fp (Nat.le_refl _) ⟨by show 2 ≤ sizeLine; decide, [.int (k + (i : Int)) tk, u], .cons ⟨_, rfl⟩ (.cons ru .nil), ⟨_, new2, rfl, _, rfl⟩⟩
    refine ⟨.ref s.heap.objs.size, _, inv, rfl, ⟨_, x, rfl, I.hok.fresh (Nat.le_refl _), rfl, fun ys hy => I.tuple_inj hy hq ▸ hx⟩, ⟨⟨u, ?_⟩, st.1.at fun o z => (but.2 it (Ne.symm ne)).trans z, ne⟩, fun b m => ?_⟩
    · rw [show k + ((i + 1 : Nat) : Int) = k + (i : Int) + 1 by omega]
      exact he'
    · have lb : b < s.heap.objs.size := by
        rcases List.mem_cons.mp m with rfl | m
        · exact le
        · exact List.mem_singleton.mp m ▸ li
      exact (upd_ne (Nat.ne_of_lt lb)).trans (fp b m).1
  done := by
    intro X hP hw hK hc i pins s σ H E I fp c ⟨xs, hq, hl⟩
    subst hP hw hK
    obtain ⟨its, rv, tup, _⟩ := I.tuple hq
    obtain ⟨g0, g1, g2, g3, g4, g5⟩ := fp it (by simp)
    have n : its.toArray.size = i := by rw [List.size_toArray, ← rv.length]; exact hl
    refine wpAny_pyNext_enum_endD (Draws.tuple (A := X.A.in1) (I.ok.hd hc) it a (c.apart tup).1 its.toArray) c.1.choose_spec ⟨n.symm ▸ c.2.1, tup⟩ fun h' but => ⟨rfl, I.turned (t' := s.toks) (fun b o nb z => but b o nb z) g0 g1 g3 g4 g5⟩
  self := fun A i s Q E ⟨⟨_, he⟩, _⟩ h => wpAny_pyIter_enum he h
section
variable {M : Model} {A : Around} {E : Value → Shared → Prop} {s : Shared} {env : Env}
/-- a built-in class called with one thing and more by their names -/
theorem type_kw {pos : Pos} {T : String} {x : Expr} {kws : List Keyword} {Q : Value → Shared → Prop} (one : backTo pos (starEach [x] env) = (false, eval x env) :: backTo pos (starEach [] env)) (named : (backToKw pos (keywordEach kws env)).all (·.1.isSome) = true) (no : (backToKw pos (keywordEach kws env)).any (·.1.isNone) = false)
    (plain : (backTo pos (starEach [x] env)).any (·.1) = false) (h : wpAny M A (spliced (backTo pos (starEach [x] env))) (fun vs s1 => wpAny M A (evalAll ((backToKw pos (keywordEach kws env)).map (·.2))) (fun ws s2 => wpAny M A (call (.type T) vs (((backToKw pos (keywordEach kws env)).filterMap (·.1)).zip ws)) Q E s2) E s1) E s) :
    wpAny M A (callWith pos (.type T) [] (backTo pos (starEach [x] env)) (backToKw pos (keywordEach kws env))) Q E s := by
  have args : wpAny M A (evalArgs (.type T) true (backTo pos (starEach [x] env)) (backToKw pos (keywordEach kws env))) (fun a s1 => wpAny M A (call (.type T) a.pos a.kw) Q E s1) E s := by
    rw [one] at h ⊢
    exact evalArgs_kwB named h
  unfold callWith
  refine wpAny_bind (wpAny_holding (wpAny_mono args (fun a s1 h1 => wpAny_bind (wpAny_standAt ?_)) fun _ _ z => z))
  simp only [plain, no, Bool.or_false]
  refine wpAny_bind (wpAny_pure ?_)
  exact wpAny_bind (wpAny_mono (show wpAny M A (call (.type T) ([] ++ a.pos) a.kw) Q E s1 from h1) (fun r s2 done => wpAny_bind (wpAny_holding (wpAny_point (wpAny_pure done)))) fun _ _ z => z)
end
section
variable {X : Cx} {e : Expr} {ta tk : TA} {p pos tpos : Pos} {elts : List Expr} {kk : Nat} {kws : List Keyword}
/-- what stands behind the making of a counter -/
theorem count_on {pins : List (Addr × Obj)} {σ : L2.St} {H : Hp} {s : Shared} {R : It → Hp → Prop} {a : Addr} {k : Int} {h' : Heap} (I : Inv X pins σ H s) (he : IsEnum h' (s.heap.objs.size + 1) s.heap.objs.size k .none)
    (hit : h'.get? s.heap.objs.size = some { cls := .type "tuple_iterator", data := .fields #[.ref a, .int 0 0] }) (keep : ∀ b o, s.heap.get? b = some o → h'.get? b = some o) (q : R (Itc X.K a k) H) :
    wpAny (model X.prog X.w) X.A (pyIter (.ref (s.heap.objs.size + 1))) (PIE X pins σ (.Tuple elts kk tpos) R) X.xe { s with heap := h' } := by
  refine wpAny_pyIter_enum he ⟨_, [s.heap.objs.size + 1, s.heap.objs.size], _, _, H, rfl, I.kept (t' := s.toks) keep, turn_count a _ _ k, ⟨⟨.none, ?_⟩, ⟨_, hit, rfl, rfl⟩, Nat.succ_ne_self _⟩, fun b m => ?_, q⟩
  · rw [show k + ((0 : Nat) : Int) = k from Int.add_zero k]
    exact he
  · have far : s.heap.objs.size ≤ b := by
      rcases List.mem_cons.mp m with rfl | m
      · exact Nat.le_succ _
      · exact Nat.le_of_eq (List.mem_singleton.mp m).symm
    exact I.fpOk far (I.hok.fresh far)
def iCountK (K : PySem.W.Frag) (ta tk : TA) : TI := fun σ H R => ta σ H fun vs H1 => tk σ H1 fun zs H2 => ∃ (a : Addr) (xs : List V) (k : Int), vs = [.ref a] ∧ zs = [.int k] ∧ SqT K H2 a xs ∧ -1000000 ≤ k ∧ k ≤ 1000000 ∧ R (Itc K a k) H2
/-- for n, x in enumerate(tuple, start=k) -/
theorem pi_countK (hg : Gl X "enumerate") (hm : X.mg "enumerate" = none) (ha : PA X [e] ta) (hk : PK X kws tk) (hks : (backToKw pos (keywordEach kws X.env)).filterMap (·.1) = [Str.ofString "start"] := by rfl) (hall : (backToKw pos (keywordEach kws X.env)).all (·.1.isSome) = true := by rfl)
    (hnone : (backToKw pos (keywordEach kws X.env)).any (·.1.isNone) = false := by rfl) (hs : backTo pos (starEach [e] X.env) = (false, eval e X.env) :: backTo pos (starEach [] X.env) := by rfl) (hpl : (backTo pos (starEach [e] X.env)).any (·.1) = false := by rfl) :
    PI X (.Tuple elts kk tpos) (.Call (.Name "enumerate" p) [e] kws pos) (iCountK X.K ta tk) := by
  have n1 : (Str.ofString "enumerate") ≠ "__name__" := by decide
  have n2 : (Str.ofString "enumerate" == ("__debug__" : Str)) = false := by decide
  refine ⟨fun pins s σ H R I h => ?_⟩
  refine wpAny_Call_Name_kw ?_
  refine ld_blt I hg hm boot_enumerate ?_ n1 n2
  refine type_kw hs hall hnone hpl (thn (ha.run pos pins s σ H (fun vs H1 => tk σ H1 fun zs H2 => ∃ (a : Addr) (xs : List V) (k : Int), vs = [.ref a] ∧ zs = [.int k] ∧ SqT X.K H2 a xs ∧ -1000000 ≤ k ∧ k ≤ 1000000 ∧ R (Itc X.K a k) H2) I h) fun us s1 c1 => ?_)
  obtain ⟨vs, H1, I1, r1, q1⟩ := c1
  refine thn (hk.run pos pins s1 σ H1 _ I1 q1) fun ws s2 c2 => ?_
  obtain ⟨zs, H2, I2, r2, q2⟩ := c2
  obtain ⟨a, xs, k, e1, e2, hq, k0, k1, q⟩ := q2
  subst e1 e2
  rw [hks, Vals.ref1 r1]
  obtain ⟨u, rfl, ru⟩ := vals1 r2
  obtain ⟨t, rfl⟩ := ru
  obtain ⟨its, _, tup, _⟩ := I2.tuple hq
  exact enum_begins_start (begins_tuple a its.toArray) tup (by omega) (by omega) fun h' he hit _ keep => count_on I2 he hit keep q
end
end Tc
/-! enumerate(tuple) from 0 -/
namespace Tc
open PySem PySem.Spec PyProof.Rows L2
set_option maxHeartbeats 2000000 in
theorem new_count (t : Addr) (items : Array Value) :
    Meets (Builtin.«enumerate.__new__» ⟨[.type "enumerate", .ref t], []⟩) (fun _ R s => s.heap.IsTuple t items ∧ R (.ok (.ret (.ref (s.heap.objs.size + 1))))
      { s with heap := (s.heap.push { cls := .type "tuple_iterator", data := .fields #[.ref t, .int 0 0] }).push { cls := .type "enumerate", data := .fields #[.none, .bool false, .ref s.heap.objs.size, rawInt 0, .none, .none] } }) :=
  .of_wp fun prog w A R s ⟨tup, fin⟩ => by
    have size : (s.heap.push { cls := .type "tuple_iterator", data := .fields #[.ref t, .int 0 0] }).objs.size = s.heap.objs.size + 1 := Heap.size_push ..
    rw [← size] at fin
    obtain ⟨hp, g, d, tk, os⟩ := s
    have own := sub_enumerate
    have iter : ∀ {A : Around} {E : Value → Shared → Prop} {Q : Value → Shared → Prop}, Q (.ref hp.objs.size) ⟨hp.push { cls := .type "tuple_iterator", data := .fields #[.ref t, .int 0 0] }, g, d, tk, os⟩ → wpAny (model prog w) A (pyIter (.ref t)) Q E ⟨hp, g, d, tk, os⟩ := fun q => (begins_tuple t items).iter _ _ _ _ ⟨hp, g, d, tk, os⟩ _ tup q
    wp_walk using iter
    refine wpAny_stack_any fun st => wpAny_pure ?_
    split
    · rename_i c _ _ _ _ _
      cases (c == Value.type "enumerate") <;> (wp_walk using iter; exact ⟨_, rfl, fin⟩)
    · wp_walk using iter
      exact ⟨_, rfl, fin⟩
theorem call_count {prog : Program} {w : World} {A : Around} {E : Value → Shared → Prop} {s : Shared} {t : Addr} {items : Array Value} {Q : Value → Shared → Prop} (tup : s.heap.IsTuple t items)
    (fin : ∀ h', IsEnum h' (s.heap.objs.size + 1) s.heap.objs.size 0 .none → h'.get? s.heap.objs.size = some { cls := .type "tuple_iterator", data := .fields #[.ref t, .int 0 0] } → (∀ b o, s.heap.get? b = some o → h'.get? b = some o) → Q (.ref (s.heap.objs.size + 1)) { s with heap := h' }) :
    wpAny (model prog w) A (call (.type "enumerate") [.ref t]) Q E s := by
  refine callType_new F.called_enumerate (by decide) (F.typeCall_enumerate_1 _) (F.newCall_enumerate_1 _) (fun obj => F.args_object_init_2 obj _) F.entry_enumerate_new (new_count t items) ⟨tup, ?_⟩
  have size : (s.heap.push { cls := .type "tuple_iterator", data := .fields #[.ref t, .int 0 0] }).objs.size = s.heap.objs.size + 1 := Heap.size_push ..
  generalize hp : s.heap.push { cls := .type "tuple_iterator", data := .fields #[.ref t, .int 0 0] } = h1 at size
  have made : IsEnum (h1.push { cls := .type "enumerate", data := .fields #[.none, .bool false, .ref s.heap.objs.size, rawInt 0, .none, .none] }) (s.heap.objs.size + 1) s.heap.objs.size 0 .none := size ▸ Heap.get?_push_size _ rfl
  exact ⟨⟨_, made, rfl⟩, fin _ made (Heap.get?_push_of_some _ (hp ▸ Heap.get?_push_size _ rfl)) fun b o z => Heap.get?_push_of_some _ (hp ▸ Heap.get?_push_of_some _ z)⟩
section
variable {X : Cx} {e : Expr} {ta : TA} {p pos tpos : Pos} {elts : List Expr} {kk : Nat}
def iCount (K : PySem.W.Frag) (ta : TA) : TI := fun σ H R => ta σ H fun vs H1 => ∃ (a : Addr) (xs : List V), vs = [.ref a] ∧ SqT K H1 a xs ∧ R (Itc K a 0) H1
/-- for n, x in enumerate(tuple) -/
theorem pi_count (hg : Gl X "enumerate") (hm : X.mg "enumerate" = none) (ha : PA X [e] ta) (hs : starEach [e] X.env = [(false, eval e X.env)] := by rfl) : PI X (.Tuple elts kk tpos) (.Call (.Name "enumerate" p) [e] [] pos) (iCount X.K ta) := by
  refine ⟨fun pins s σ H R I h => Call_ (ld_blt I hg hm boot_enumerate (callWith_type1 (thn (ha.run pos pins s σ H _ I h) fun us s1 c1 => ?_) hs rfl))⟩
  obtain ⟨vs, H1, I1, r1, a, xs, e1, hq, q⟩ := c1
  subst e1
  rw [Vals.ref1 r1]
  obtain ⟨its, _, tup, _⟩ := I1.tuple hq
  exact call_count tup fun h' he hit keep => count_on I1 he hit keep q
end
end Tc
/-! sorted(tuple of ints) -/
namespace Tc
open PySem PySem.Spec PyProof.Rows L2
def rSortedTI (K : PySem.W.Frag) : List V → Hp → VK → Prop := fun vs H Q => ∃ (a : Addr) (ns : List Int), vs = [V.ref a] ∧ SqT K H a (ns.map V.int) ∧ ∀ (ms : List Int) (p : Addr), ms.Perm ns → ms.Pairwise (· ≤ ·) → H p = none → Q (.ref p) (upd H p (.lst (ms.map V.int)))
set_option maxHeartbeats 4000000 in
theorem cr_sortedTI {X : Cx} : CallR X (.builtin "sorted") (rSortedTI X.K) := by
  intro pins s σ H vs us Q I r ⟨a, ns, e0, hs, q⟩
  subst e0
  rw [Vals.ref1 r]
  obtain ⟨its, rv, ⟨ob, at1, cls, n, dat⟩, fits⟩ := I.tuple hs
  have are := rv.ints
  have size : its.length ≤ sizeLine := rv.length ▸ fits
  refine Calls.call_function_entry kind_sorted plain_sorted entry_sorted (args_sorted1 _) (show wpAny _ _ (Builtin.«sorted» _) _ _ _ from ?_)
  refine wpAny_bind (m := checkCount "sorted" 1 1 _) (wpAny_pure (wpAny_bind (wpAny_collect_seq a (.inr rfl) at1 cls dat (fun g keep => ?_) (by rw [List.size_toArray]; exact size))))
  rw [show its.toArray.toList = its by simp]
  have kept := I.kept (h' := g) (t' := s.toks) keep
  refine wpAny_bind (wpAny_newList ?_ size)
  generalize hL : g.push (seqObj "list" its.toArray 0) = L
  have new : L.get? g.objs.size = some (seqObj "list" its.toArray 0) := hL ▸ Heap.get?_push_size _ rfl
  refine wpAny_bind (wpAny_holding (wpAny_call_entry slot_list_sort ⟨_, new, rfl⟩ entry_list_sort (SrtO.list_sort_ord SrtO.swo_int new size (fun lt => SrtO.ints_sortable are lt) fun out o1 o2 => ⟨_, rfl, ?_⟩) (args_list_sort _)))
  obtain ⟨r1, r2, r3⟩ := SrtO.ints_out are o1 o2
  have ⟨c, at2⟩ := sortedHeap_at (vs := its) (out := out.toArray) new
  have few : ((out.map SrtO.iv).map V.int).length ≤ sizeLine := by
    rw [List.length_map, r2.length_eq]
    rw [List.length_map] at fits
    exact fits
  refine wpAny_pure ⟨_, rfl, .ref g.objs.size, upd H g.objs.size (.lst ((out.map SrtO.iv).map V.int)), kept.laid (t' := s.toks) (fun b u e => ?_) (Nat.le_refl _) ⟨few, out, c, vals_of_ints r1, at2⟩, rfl, q _ _ r2 r3 (kept.hok.fresh (Nat.le_refl _))⟩
  have lt := Heap.lt_size e
  show (sortedHeap L g.objs.size its out.toArray).get? b = some u
  rw [sortedHeap_old (Nat.ne_of_lt lt) (hL ▸ size_push' g _ ▸ Nat.lt_succ_of_lt lt), ← hL]
  exact Heap.get?_push_of_some _ e
end Tc
/-! sorted(dict of int keys), of any number -/
namespace Tc
open PySem PySem.Spec PyProof.Rows L2
def rSortedDA : List V → Hp → VK → Prop := fun vs H Q => ∃ (a : Addr) (kvs : List (Key × V)) (ks : List Int), vs = [V.ref a] ∧ Rd H a (.dK kvs) ∧ kvs.map (·.1) = ks.map Sum.inl ∧ ∀ (ms : List Int) (p : Addr), ms.Perm ks → ms.Pairwise (· ≤ ·) → H p = none → Q (.ref p) (upd H p (.lst (ms.map V.int)))
set_option maxHeartbeats 4000000 in
theorem cr_sortedDA {X : Cx} (hc : X.calm = true) : CallR X (.builtin "sorted") rSortedDA := by
  intro pins s σ H vs us Q I r ⟨a, kvs, ks, e0, hd, hks, q⟩
  subst e0
  rw [Vals.ref1 r]
  obtain ⟨fits, lo, prs, rel, dd⟩ := dk_rd I.hok hd
  obtain ⟨ep, hat⟩ := dd.dictAt
  have keys : prs.map (·.1) = ks.map Sum.inl := rel.keys.symm.trans hks
  have many : prs.length = ks.length := by simpa using congrArg List.length keys
  have size : prs.length ≤ sizeLine := by
    have e := congrArg List.length hks
    rw [List.length_map] at e
    rw [List.length_map] at e
    rw [many, ← e]
    exact fits
  refine Calls.call_function_entry kind_sorted plain_sorted entry_sorted (args_sorted1 _) (show wpAny _ _ (Builtin.«sorted» _) _ _ _ from ?_)
  refine wpAny_bind (m := checkCount "sorted" 1 1 _) (wpAny_pure (wpAny_bind (PySem.W.kdu_collect (A := X.A.in1) (PySem.W.kdl_dict (knd := mixKind X.prog X.w) (kvs := prs) (ep := ep) lo) (I.ok.hd hc) hat size fun g tk acc keep items => ?_)))
  have al : acc.toList.length = ks.length := by rw [Array.length_toList, items.1, many]
  have are : IntsAre acc.toList ks := ints_each al fun j v e => by
    obtain ⟨k, x, e1, e2⟩ := items.2 j v (by rw [← Array.getElem?_toList]; exact e)
    have e3 : (ks.map (Sum.inl : Int → Key))[j]? = some k := by rw [← keys, List.getElem?_map, e1]; rfl
    rw [List.getElem?_map] at e3
    obtain ⟨y, e4, e5⟩ := Option.map_eq_some_iff.mp e3
    subst e5
    have sh := keyIs_shape (show keyIs (Sum.inl y) v = true from e2)
    rcases sh with ⟨i, t, ek, ev⟩ | ⟨z, t, ek, ev⟩
    · cases ek
      exact ⟨y, t, e4, ev⟩
    · cases ek
  have kept : Inv X pins σ H { s with heap := g, toks := tk } := I.kept keep
  have size2 : acc.toList.length ≤ sizeLine := by rw [al, ← many]; exact size
  refine wpAny_bind (wpAny_newList ?_ size2)
  generalize hL : g.push (seqObj "list" acc.toList.toArray 0) = L
  have new : L.get? g.objs.size = some (seqObj "list" acc.toList.toArray 0) := hL ▸ Heap.get?_push_size _ rfl
  show wpAny _ _ _ _ _ { s with heap := L, toks := tk }
  refine wpAny_bind (wpAny_holding (wpAny_call_entry slot_list_sort ⟨_, new, rfl⟩ entry_list_sort (SrtO.list_sort_ord SrtO.swo_int new size2 (fun lt => SrtO.ints_sortable are lt) fun out o1 o2 => ⟨_, rfl, ?_⟩) (args_list_sort _)))
  obtain ⟨r1, r2, r3⟩ := SrtO.ints_out are o1 o2
  have ⟨c, at2⟩ := sortedHeap_at (vs := acc.toList) (out := out.toArray) new
  have few : ((out.map SrtO.iv).map V.int).length ≤ sizeLine := by
    rw [List.length_map, r2.length_eq, ← al]
    exact size2
  refine wpAny_pure ⟨_, rfl, .ref g.objs.size, upd H g.objs.size (.lst ((out.map SrtO.iv).map V.int)), kept.laid (t' := tk) (fun b u e => ?_) (Nat.le_refl _) ⟨few, out, c, vals_of_ints r1, at2⟩, rfl, q _ _ r2 r3 (kept.hok.fresh (Nat.le_refl _))⟩
  have lt := Heap.lt_size e
  show (sortedHeap L g.objs.size acc.toList out.toArray).get? b = some u
  rw [sortedHeap_old (Nat.ne_of_lt lt) (hL ▸ size_push' g _ ▸ Nat.lt_succ_of_lt lt), ← hL]
  exact Heap.get?_push_of_some _ e
end Tc
/-! an exception's own __init__ that says super().__init__(..) -/
namespace Tc
open PySem PySem.Spec PyProof.Rows L2
section
variable {X : Cx} {pins : List (Addr × Obj)} {σ : L2.St} {H : Hp} {s : Shared} {A : Around} {E : Value → Shared → Prop} {a C u : Addr}
/-- the bound ValueError.__init__ called: nothing of it is told -/
theorem wrap_call {us : List Value} {Q : Value → Shared → Prop} (T : OexC X.K C) (I : Inv X pins σ H s) (e : H a = some (exo a C none)) (hu : s.heap.get? u = some (PySem.W.kxs_mw "ValueError.__init__" a)) (hl : us.length ≤ sizeLine) (h : ∀ s', Inv X pins σ H s' → Q .none s') :
    wpAny (model X.prog X.w) A (call (.ref u) us) Q E s := by
  obtain ⟨cn, cq, cN, cb, cm, c1, c2, c3, c4, c5, j0, j1, j2, j3, j5, hC, hbm⟩ := T.cls
  obtain ⟨t1, ho⟩ := exo_at I.hok e
  obtain ⟨hp, g, d, t, os⟩ := s
  have fin : ∀ h', (∀ b o, b ≠ a → hp.get? b = some o → h'.get? b = some o) → h'.get? a = some (PySem.W.excObj C hp.objs.size none .none) → Q .none ⟨h', g, d, t, os⟩ := fun h' k hx => by
    have J := I.write (x := a) (e := a) (o := exo a C none) (t' := t) (e ▸ True.intro) (.inl rfl) k ⟨_, hx⟩ (exo_ok hx)
    have still : upd H a (exo a C none) = H := by
      funext b
      by_cases hb : b = a
      · rw [hb, upd_same, e]
      · rw [upd_ne hb]
    rw [still] at J
    exact h _ J
  refine wpAny_call (codeAny_of_tree (show wpAny _ A.in1 (callAny (.ref u) ⟨us, []⟩) _ _ _ from ?_))
  simp only [callAny]
  refine wpAny_bind (wpAny_load hu ?_)
  have w1 : (Value.type "method-wrapper" == Value.type "method" || Value.type "method-wrapper" == Value.type "builtin_function_or_method" || Value.type "method-wrapper" == Value.type "method-wrapper") = true := by decide
  simp only [PySem.W.kxs_mw, w1, if_true]
  refine PySem.W.KFB.if_so (by decide) (wpAny_bind (PySem.W.check_bound_init PySem.F.excBase_ValueError.toExcCallFacts (I.kIn _ _ hC) ho rfl (wpAny_bind (wpAny_pure (wpAny_pure ⟨plainId_quiet PySem.F.excBase_ValueError.init.plain _, codeAny_builtin PySem.F.excBase_ValueError.initEntry ?_⟩)))))
  exact PySem.W.exc_init_tree (cls := .ref C) (t0 := t1) (dv := none) (c2 := .none) (c3 := .none) (b4 := .bool false) ho hl fun h' k hx _ => fin h' k hx
end
end Tc
namespace Tc
open PySem PySem.Spec PyProof.Rows L2
/-- a bound __init__, as it stands for a moment -/
def mwO (u a : Addr) : HO := .ext fun h => h.get? u = some (PySem.W.kxs_mw "ValueError.__init__" a)
/-- what is known of the def, its code, its class -/
structure SupX (X : Cx) (C f cc cda : Addr) (me : Str) : Prop where
  ks : Gl X "super"
  kc : X.env.kindOf "__class__" = some .free
  fu : X.env.func = some f
  co : X.env.code = .ref cda
  fn : ∃ (of : Obj) (fd : FuncData) (ar : Arg), X.K.lookup f = some of ∧ of.data = .func fd ∧ (fd.params.posonlyargs ++ fd.params.args).head? = some ar ∧ ar.arg = me
  cd : ∃ (oc : Obj) (vs : Array Value) (file : Str) (tf : Tok), X.K.lookup cda = some oc ∧ oc.data = .fields vs ∧ vs[2]? = some (.str file tf) ∧ ((X.prog.main.file : Str) == file) = true
  top : (X.prog.main.scope.names.lookup ("super" : Str)).isSome = false
  mg : X.mg "super" = none
  ce : X.env.cells.lookup ("__class__" : Str) = some cc
  cv : ∃ ol : Obj, X.K.lookup cc = some ol ∧ ol.data = .cell (some (.ref C))
  lo : X.env.scope.names.lookup me = some .local
  cl : ∃ cdC : ClassData, PySem.W.clsIn X.K C = some cdC
  mr : PySem.W.mroIn X.K C (.ref C) = some true
  op : PySem.W.nsIn X.K cStatics "thirdparty.any" = some none
  su : PySem.W.ks_superIn X.K C C "__init__" = some (some (.builtin "ValueError.__init__"))
  ve : PySem.W.subIn X.K (.ref C) (.type "ValueError") = some true
theorem mwO_ok {P : Program} {w : World} {H : Hp} {h : Heap} {u a : Addr} (hu : h.get? u = some (PySem.W.kxs_mw "ValueError.__init__" a)) : ObjOk P w H h u (mwO u a) := ⟨hu, ⟨_, hu⟩, fun h1 h2 z k => k _ z⟩
theorem boot_sup : bootBuiltins "super" = some (.type "super") := PyProof.Rows.Boot.«super»
section
variable {X : Cx} {pins : List (Addr × Obj)} {σ : L2.St} {H : Hp} {s : Shared} {a C f cc cda : Addr} {me : Str}
set_option maxHeartbeats 2000000 in
/-- super().__init__(e) -/
theorem sup_init {body : List Stmt} {p0 p1 p2 pos : Pos} {e : Expr} {ta : TA} {i : Nat} {Q : VK} (Z : SupX X C f cc cda me) (T : OexC X.K C) (I : Inv X pins σ H s) (ea : H a = some (exo a C none)) (hi : X.N[i]? = some me) (hs : σ[i]? = some (some (.ref a))) (ha : PA X [e] ta)
    (hta : ∀ u, H u = none → ta σ (upd H u (mwO u a)) fun vs H1 => H1 = upd H u (mwO u a) ∧ vs.length ≤ 1000 ∧ Q .non H1)
    {pl : Sem Bool} (hc : eval (.Call (.Attribute (.Call (.Name "super" p0) [] [] p1) "__init__" p2) [e] [] pos) X.env = (do
      let ov ← attributeBase (.Call (.Name "super" p0) [] [] p1) "__init__" X.env (eval (.Call (.Name "super" p0) [] [] p1) X.env)
      standAt p2.atName
      let (g, g1) ← holding [ov] (getMethod ov "__init__" pl)
      callWith pos g g1 (backTo pos (starEach [e] X.env)) []))
    (he : starEach [e] X.env = (false, eval e X.env) :: starEach [] X.env := by rfl) :
    PySem.wpAt (model X.prog X.w) X.A (.func body X.env) (eval (.Call (.Attribute (.Call (.Name "super" p0) [] [] p1) "__init__" p2) [e] [] pos) X.env) (EP X pins σ Q) X.xe s := by
  obtain ⟨of, fd, ar, lf, hfd, hp, ear⟩ := Z.fn
  obtain ⟨oc, vs, file, tf, lc, hoc, hvs, hfile⟩ := Z.cd
  obtain ⟨ol, lo, hol⟩ := Z.cv
  obtain ⟨cdC, hcC⟩ := Z.cl
  subst ear
  have K1 := I.kIn
  obtain ⟨t1, hx⟩ := exo_at I.hok ea
  have In1 : PySem.W.InstAt s.heap a (PySem.W.excObj C t1 none .none) C none := ⟨hx, rfl, rfl, trivial⟩
  obtain ⟨oD, hD1, hD2⟩ : ∃ oD, s.heap.get? C = some oD ∧ oD.data = .cls cdC := by
    unfold PySem.W.clsIn at hcC
    split at hcC
    · rename_i ho
      cases hcC
      exact ⟨_, K1 _ _ ho, rfl⟩
    · cases hcC
  obtain ⟨hp', g, d, t, os⟩ := s
  refine PySem.ks_wpAt_MethodCall (pl := pl) (PySem.ks_wpAt_super_base Z.ks Z.kc (by decide) Z.fu (K1 _ _ lf) hfd hp Z.co (K1 _ _ lc) hoc hvs hfile Z.top ?_) hc
  obtain ⟨mb, b1, b2⟩ := I.mod.blt
  refine PySem.W.ks_loadName_global I.ok.kind Z.ks (Calls.loadGlobal_builtin (by rw [I.ok.glob]; exact I.mod.glob.keeps I.bk) Z.mg (by rw [I.ok.blt]; exact b1.keeps I.bk) ((b2 "super" (by decide)).trans boot_sup) ⟨rfl, ?_⟩)
  refine wpAny_loadName_free I.ok.kind Z.kc Z.ce ⟨ol, K1 _ _ lo, hol⟩ ?_
  obtain ⟨m, hn, hl⟩ := I.loc
  obtain ⟨uv, r, l⟩ := hl i ar.arg (.ref a) hi hs (.inl Z.lo)
  obtain rfl : uv = Value.ref a := r
  rcases l with ⟨hk, hm⟩ | ⟨hk, _⟩
  · refine wpAny_loadName_local I.ok.kind hk hn hm (PySem.ks_wpAny_isType_cls hD1 hD2 ⟨rfl, PySem.ks_wpAny_call_super hD1 hD2 hx rfl (fun c e => by cases e) (PySem.W.looks_mroIn K1 Z.mr) fun h' hso kp => ?_⟩)
    have I2 : Inv X pins σ H ⟨h', g, d, t, os⟩ := I.kept (t' := t) kp
    have K2 := I2.kIn
    have In2 : PySem.W.InstAt h' a (PySem.W.excObj C t1 none .none) C none := ⟨kp _ _ hx, rfl, rfl, trivial⟩
    have hsu := Z.su
    unfold PySem.W.ks_superIn at hsu
    rw [hcC] at hsu
    refine PySem.W.kxs_getMethod PySem.W.kxs_ValueError hso (PySem.W.looks_opaque K2 Z.op) (l₀ := cdC.mro) (fun A' Q' E' s' k' q' => wpAny_bind ((PySem.W.looks_clsIn K2 hcC) A' _ E' s' k' (wpAny_pure q'))) rfl K2 hsu (In2.type.andThen (PySem.W.looks_subIn K2 Z.ve)) (PySem.W.ks_ne K2 In2 hcC) (by decide) ?_
    have nu : H h'.objs.size = none := I2.hok.fresh (Nat.le_refl _)
    have I3 : Inv X pins σ (upd H h'.objs.size (mwO h'.objs.size a)) ⟨h'.push (PySem.W.kxs_mw "ValueError.__init__" a), g, d, t + 1, os⟩ := I2.laid (a := h'.objs.size) (t' := t + 1) (fun b o z => Heap.get?_push_of_some _ z) (Nat.le_refl _) (mwO_ok (Heap.get?_push_size _ rfl))
    generalize h'.objs.size = u at nu I3 ⊢
    generalize h'.push (PySem.W.kxs_mw "ValueError.__init__" a) = h3 at I3 ⊢
    have au : a ≠ u := fun z => by
      rw [← z, ea] at nu
      cases nu
    rw [he]
    refine PySem.W.kxs_callWith (i := "ValueError.__init__") (x := a) rfl (Calls.evalArgs_plain ?_)
    have run := ha.run pos pins _ σ _ _ I3 (hta u nu)
    rw [he] at run
    refine thn run fun us s4 ⟨vs4, H4, I4, rv, eH, hlen, q⟩ => ?_
    subst eH
    have hu4 : s4.heap.get? u = some (PySem.W.kxs_mw "ValueError.__init__" a) := (show ObjOk X.prog X.w _ _ u (mwO u a) from I4.hok u _ upd_same).1
    have hl4 : us.length ≤ sizeLine := by
      rw [← Paired.length rv, sizeLine_eq]
      omega
    exact ⟨hu4, wrap_call T I4 (by rw [upd_ne au]; exact ea) hu4 hl4 fun s' J => ⟨.non, _, J, rfl, q⟩⟩
  · have zl : X.env.kindOf ar.arg = some .local := Z.lo
    rcases hk with hk | hk
    · rw [zl] at hk
      cases hk
    · rw [zl] at hk
      cases hk
end
end Tc
namespace Tc
open PySem PySem.Spec PyProof.Rows L2 NdefX
section
variable {CX : CXT} {P : Program} {w : World} {K : PySem.W.Frag} {mg : Str → Option Value} {base : Heap} {N ps : List Str} {f cc cda C : Addr} {k : Nat} {sp : Sp} {name qual : Str} {params : Arguments} {scope : Scope} {st1 st2 : Stmt} {dV kV doc pm ct oc : Value} {an od : Option Addr} {osl : Array (Option Value)}
/-- the def as a nested one, its one cell the class -/
abbrev xF (name qual : Str) (params : Arguments) (st1 st2 : Stmt) (scope : Scope) (cc cda : Addr) : NF := ⟨name, qual, params, [st1, st2], scope, [("__class__", cc)], cda⟩
set_option maxHeartbeats 2000000 in
/-- a def whose first row is super().__init__(e) -/
theorem fn_super {p0 p1 p2 pos pos' : Pos} {e : Expr} {me : Str} (lk : K.lookup f = some ⟨oc, od, .func (PySem.W.fnX name qual params [st1, st2] scope [("__class__", cc)] dV kV doc pm an (.ref cda) ct), osl⟩) (hcd : PySem.W.codeIn K (.ref cda) qual = true) (S : NScope N ps ["__class__"] scope)
    (len : ∀ vs H Q E, sp vs H Q E → vs.length = ps.length) (T : OexC K C) (ccK : ∃ ol : Obj, K.lookup cc = some ol ∧ ol.data = .cell (some (.ref C)))
    (hst : st1 = .Expr (.Call (.Attribute (.Call (.Name "super" p0) [] [] p1) "__init__" p2) [e] [] pos) pos') (h0 : N[0]? = some me)
    (hcall : ∀ env : Env, ∃ pl : Sem Bool, eval (.Call (.Attribute (.Call (.Name "super" p0) [] [] p1) "__init__" p2) [e] [] pos) env = (do
      let ov ← attributeBase (.Call (.Name "super" p0) [] [] p1) "__init__" env (eval (.Call (.Name "super" p0) [] [] p1) env)
      standAt p2.atName
      let (g, g1) ← holding [ov] (getMethod ov "__init__" pl)
      callWith pos g g1 (backTo pos (starEach [e] env)) []))
    (hstar : ∀ env : Env, starEach [e] env = (false, eval e env) :: starEach [] env)
    (hint : ∀ L : Addr, interactive (envF (xF name qual params st1 st2 scope cc cda) f L) = false)
    (hsw : ∀ L : Addr, swapsWith (.Call (.Attribute (.Call (.Name "super" p0) [] [] p1) "__init__" p2) [e] [] pos) none pos'.line (envF (xF name qual params st1 st2 scope cc cda) f L) = pure false)
    (hZ : ∀ (A : Around) (outer : List Env) (s : Shared) (H : Hp) (E : XK), SupX (ncx CX P w K mg base N (xF name qual params st1 st2 scope cc cda) f A outer s H E) C f cc cda me)
    (hbody : ∀ (A : Around) (outer : List Env) (s : Shared) (H : Hp) (vs : List V) (Q : VK) (E : XK), Room k (A.deeper (envF (xF name qual params st1 st2 scope cc cda) f s.heap.objs.size)) → sp vs H Q E →
      ∃ (a : Addr) (ta : TA) (t2 : TS), vs[0]? = some (.ref a) ∧ H a = some (exo a C none) ∧ PA (ncx CX P w K mg base N (xF name qual params st1 st2 scope cc cda) f A outer s H E) [e] ta ∧ PSs (ncx CX P w K mg base N (xF name qual params st1 st2 scope cc cda) f A outer s H E) [st2] t2 ∧
        ∀ u, H u = none → ta (startF N vs [some (.ref C)]) (upd H u (mwO u a)) fun ws H1 => H1 = upd H u (mwO u a) ∧ ws.length ≤ 1000 ∧ t2 { nx := fun _ H' => Q .non H', rt := Q } (startF N vs [some (.ref C)]) H1) :
    FnOk P w K mg base CX (k + 1) f (PySem.W.fnX name qual params [st1, st2] scope [("__class__", cc)] dV kV doc pm an (.ref cda) ct) ps sp := by
  refine ⟨len, fun A outer s H aa us vs Q E hr e0 hb r hsp => ?_⟩
  have hl := len _ _ _ _ hsp
  have KX : K.In s.heap := e0.mod.kin.keeps fun b o z => (e0.bs b o z).1
  have lim : s.heap.NoLimit := e0.mod.nolimit.keeps fun b o z => (e0.bs b o z).1
  refine PySem.ks_codeAny_call_defAt hr.depth (KX _ _ lk) rfl lim (PySem.W.codeRec_of KX hcd) rfl hb S.nocell (fun ⟨n, _⟩ hy => S.par n (List.of_mem_zip hy).1) (fun h₁ hns kp => ?_) S.co S.gen S.kind
  obtain ⟨ol, lo, hol⟩ := ccK
  have C1 : CellsAt (xF name qual params st1 st2 scope cc cda).cl ["__class__"] [some (.ref C)] s.heap H := by
    have only : ∀ {y : Str} {c : Addr}, ([("__class__", cc)] : List (Str × Addr)).lookup y = some c → y = ("__class__" : Str) ∧ c = cc := fun {y c} h => by
      by_cases z : y = ("__class__" : Str)
      · subst z
        rw [List.lookup_cons_self] at h
        exact ⟨rfl, (Option.some.inj h).symm⟩
      · rw [List.lookup_cons, show (y == ("__class__" : Str)) = false from beq_eq_false_iff_ne.mpr z] at h
        cases h
    have hb0 : base.get? cc = some ol := e0.mod.kin _ _ lo
    obtain ⟨hc1, hc2⟩ := e0.bs _ _ hb0
    have cell : s.heap.IsCell cc (some (.ref C)) := ⟨ol, hc1, hol⟩
    refine ⟨rfl, fun y c h => ?_, fun x y c h1 h2 => (only h1).1.trans (only h2).1.symm, fun i y h => ?_⟩
    · obtain ⟨_, rfl⟩ := only h
      exact ⟨hc2, _, cell⟩
    · cases i with
      | zero =>
        cases h
        exact ⟨cc, List.lookup_cons_self, fun v hv => by
          cases hv
          exact ⟨_, rfl, cell⟩⟩
      | succ i => cases h
  have I : Inv (ncx CX P w K mg base N (xF name qual params st1 st2 scope cc cda) f A outer s H E) [] (startF N vs [some (.ref C)]) H { s with heap := h₁, toks := s.toks + (ps.zip us).length } := inv_startN S hr.hd e0 hl r C1 hns kp
  obtain ⟨a, ta, t2, hv0, ea, ha, h2, hta⟩ := hbody A outer s H vs Q E (hr.deeper _) hsp
  subst hst
  have hs0 : (startF N vs [some (.ref C)])[0]? = some (some (.ref a)) := by
    unfold startF
    cases vs with
    | nil => cases hv0
    | cons v vs =>
      cases hv0
      rfl
  have fin : ∀ {s' : Shared} {σ' : L2.St} {H' : Hp} {v : V} {u : Value}, Inv (ncx CX P w K mg base N (xF name qual params (.Expr (.Call (.Attribute (.Call (.Name "super" p0) [] [] p1) "__init__" p2) [e] [] pos) pos') st2 scope cc cda) f A outer s H E) [] σ' H' s' → L2.RelV v u → Q v H' → CE outer P w H s Q u s' := fun {s' σ' H' v u} J rv q => ⟨v, H', J.os, J.bare, J.base, J.hok, rv, q⟩
  obtain ⟨pl, hc⟩ := hcall (envF (xF name qual params (.Expr (.Call (.Attribute (.Call (.Name "super" p0) [] [] p1) "__init__" p2) [e] [] pos) pos') st2 scope cc cda) f s.heap.objs.size)
  refine PySem.ks_wpAt_execs_cons (PySem.ks_wpAt_Expr_any (PySem.ks_wpAt_mono (sup_init (hZ A outer s H E) T I ea h0 hs0 ha (Q := fun _ H1 => t2 { nx := fun _ H' => Q .non H', rt := Q } (startF N vs [some (.ref C)]) H1) hta hc (hstar _)) (fun v s1 h1 => ?_) fun _ _ z => z) (hint _) (hsw _))
  obtain ⟨y, H1, I1, _, q1⟩ := h1
  refine PySem.wpAt_of_wpAny (wpAny_mono (h2.run [] _ _ H1 _ I1 q1) (fun fl s2 hs => ?_) fun e s2 hs => hs)
  cases fl with
  | ret u =>
    obtain ⟨z, σ', H', J, rv, q⟩ := hs
    exact fin J rv q
  | next =>
    obtain ⟨σ', H', J, q⟩ := hs
    exact fin (u := Value.none) (v := V.non) J rfl q
  | brk =>
    obtain ⟨_, _, _, q⟩ := hs
    exact False.elim q
  | cont =>
    obtain ⟨_, _, _, q⟩ := hs
    exact False.elim q
end
end Tc
/-! exceptions whose context is None: made, raised, let through -/
namespace Tc
open PySem PySem.Spec PyProof.Rows L2
/-- a def that may let an exception out -/
def OwnX (P : Program) (w : World) (K : PySem.W.Frag) (mg : Str → Option Value) (base : Heap) (x : Str) (ps : List Str) (k : Nat) (sp : Sp) : Prop :=
  ∃ (f : Addr) (fd : FuncData), FnOk P w K mg base (L2N.CX P w) k f fd ps sp ∧ mg x = some (.ref f) ∧ PySem.W.keepIn K (.ref f) = true ∧ Binds K fd ps []
section
variable {P : Program} {w : World} {K : PySem.W.Frag} {mg : Str → Option Value} {base : Heap}
theorem okN {x qual : Str} {st : Stmt} {f : Addr} {fd : FuncData} {N ps : List Str} {k : Nat} {sp : Sp} (F : Fun K x qual st f fd) (S : FnScope N ps (defScope st)) (len : ∀ vs H Q E, sp vs H Q E → vs.length = ps.length)
    (hb : ∀ (cdv : Value) (A : Around) (outer : List Env) (s : Shared) (H : Hp) (vs : List V) (Q : VK) (E : XK), Room k (A.deeper (envOfC qual (defScope st) s.heap.objs.size f cdv)) → sp vs H Q E →
      ∃ t, PSs (cxOf (L2N.CX P w) P w K mg base N qual (defScope st) f cdv A outer s H E) (defBody st) t ∧ t { nx := fun _ H' => Q .non H', rt := Q } (start N vs) H) : FnOk P w K mg base (L2N.CX P w) (k + 1) f fd ps sp := by
  obtain ⟨_, _, _, _, _, _, cdv, _, _, rfl, lk, hcd⟩ := F.ex
  exact fn_of lk hcd S len fun A outer s H vs Q E hr z => hb cdv A outer s H vs Q E hr z
end
section
variable {X : Cx}
theorem none_out : L2N.Takes X (fun _ _ _ _ => False) := fun _ _ ⟨_, _, _, _, _, _, _, _, _, _, _, _, _, _, _, _, z⟩ => z.elim
theorem pe_ownX {W : WX} {x : Str} {ps : List Str} {k j : Nat} {sp : Sp} {e : Expr} {es : List Expr} {t : TA} {p pos : Pos} (d : OwnX X.prog X.w X.K X.mg X.base x ps k sp) (tk : L2N.Takes X W) (hr : Room j X.A) (hj : k ≤ j) (hg : Gl X x) (ha : PA X (e :: es) t)
    (he : starEach (e :: es) X.env = (false, eval e X.env) :: starEach es X.env := by rfl) (hdb : (x == ("__debug__" : Str)) = false := by decide) (hpl : (backTo pos (starEach es X.env)).any (·.1) = false := by rfl) :
    PE X (.Call (.Name x p) (e :: es) [] pos) (tCallS sp (WE W) t) := by
  obtain ⟨f, fd, F, hm, hk, hb⟩ := d
  exact pe_callS F (hr.mono hj) hg hm hk hb (fun σ => L2N.passAt tk σ) ha hdb he hpl
set_option maxHeartbeats 2000000 in
/-- C(e, ..) of an own __init__, the context None -/
theorem pmkN {CX : CXT} {x : Str} {e : Expr} {es : List Expr} {ta : TA} {p pos : Pos} {C fI : Addr} {k : Nat} {fd : FuncData} {ps : List Str} {sp : Sp} (T : OexC X.K C) (iC : PySem.W.findIn X.K (.ref C) "__init__" = some (some (.ref fI))) (tI : PySem.W.typeIn X.K (.ref fI) = some (.type "function"))
    (F1 : FnOk X.prog X.w X.K X.mg X.base CX k fI fd ps sp) (hr : Room (k + 1) X.A) (hb : Binds X.K fd ps []) (hx : Passes CX X (fun _ _ _ => False)) (hg : Gl X x) (hm : X.mg x = some (.ref C)) (ha : PA X (e :: es) ta)
    (hdb : (x == ("__debug__" : Str)) = false := by decide)
    (he : starEach (e :: es) X.env = (false, eval e X.env) :: starEach es X.env := by rfl) (hpl : (backTo pos (starEach es X.env)).any (·.1) = false := by rfl) :
    L2N.PMk X (.Call (.Name x p) (e :: es) [] pos) (tMkO C sp [] ta) := by
  intro pins s σ H Q I h
  have T0 := T.cls
  rcases T0 with ⟨_, _, _, _, bm, _, _, _, _, _, _, _, _, _, _, hC, vb⟩
  refine wpAny_Call_Name_kw (ld_glob I hg hm ?_ hdb)
  refine PySem.W.callWith_K (h₀ := X.base) I.mod.kin T.kC (thn (ha.run pos pins s σ H _ I h) fun us s1 z => ?_) he hpl
  rcases z with ⟨vs, H1, I1, r1, _, q1⟩
  refine ⟨I1.kIn, (?_ : wpAny _ _ (call (.ref C) us) _ _ _)⟩
  rcases s1 with ⟨h1, gs, dr, tk, os⟩
  have lt : h1.objs.size ≤ h1.objs.size + 1 := Nat.le_succ _
  have qa := q1 (h1.objs.size + 1) (I1.hok.fresh lt)
  rw [List.append_nil] at qa
  obtain ⟨h2, e2⟩ : ∃ h2 : Heap, h2 = (h1.push (PySem.W.kdv_tup us)).push (PySem.HandSPX.excO C h1.objs.size) := ⟨_, rfl⟩
  have kk : ∀ b o, h1.get? b = some o → h2.get? b = some o := fun b o z => by
    rw [e2]
    exact Heap.get?_push_of_some _ (Heap.get?_push_of_some _ z)
  have at1 : h2.get? (h1.objs.size + 1) = some (PySem.HandSPX.excO C h1.objs.size) := by
    rw [e2]
    heap_get
  have I2 : Inv X pins σ (upd H1 (h1.objs.size + 1) (exo (h1.objs.size + 1) C none)) ⟨h2, gs, dr, tk, os⟩ := I1.laid (t' := tk) kk lt (exo_ok at1)
  have r2 : Vals (.ref (h1.objs.size + 1) :: vs) (.ref (h1.objs.size + 1) :: us) := .cons rfl r1
  have few : us.length ≤ sizeLine := by
    have a := r1.length
    have b := F1.len _ _ _ _ qa
    rename_i c
    rw [← a, sizeLine_eq]
    omega
  have B := hb ⟨h2, gs, dr, tk, os⟩ (.ref (h1.objs.size + 1) :: us) I2.kIn (by
    rw [List.append_nil, ← r2.length]
    exact F1.len _ _ _ _ qa)
  rw [List.append_nil] at B
  rw [e2] at I2 B
  refine wpAny_call (PySem.HandSPX.call_own F.excBase_ValueError (fun Y => PySem.HandSPX.refsVE_contains Y bm vb) (I1.kIn _ _ hC) (PySem.W.looks_findIn I1.kIn iC) (fun a => PySem.W.bind_fn I1.kIn a tI) few (codeAny_mono (F1.run _ X.stack _ _ ⟨_, []⟩ _ _ _ (fun _ _ _ => False) (hr.make C us []) (I2.env0.make C us []) B r2 qa) fun r s' z => ?_))
  cases r with
  | error u => exact hx pins σ _ _ u s' I2 z
  | ok fl =>
    cases fl with
    | ret u =>
      rcases z with ⟨v, H2, o2, b2, u2, k2, rv, ev, d, fs, ea, ed, d1, q2⟩
      subst ev
      rcases s' with ⟨h3, g3, d3, t3, o3⟩
      rw [← e2] at u2
      have M := mk_end0 (d2 := d3) (t2 := t3) I1 lt kk u2 k2 o2 b2 ea ed d1
      rcases M with ⟨t0, G, J, kG, ge, hoe, na⟩
      exact ⟨rv, _, _, _, ⟨G, g3, d3, t3, o3⟩, _, .ref C, some d, rfl, J, kG, ge, hoe, ⟨rfl, rfl, fun ws hw => by
        cases hw
        rfl⟩, rfl, rfl, na, rfl, b2, raises_own T.exC T.tyC, q2⟩
    | next => exact z.elim
    | brk => exact z.elim
    | cont => exact z.elim
end
end Tc
/-! defs called in an except suite, what is known of the exception handed to them -/
namespace Tc
open PySem PySem.Spec PyProof.Rows L2 L2H
/-- a promise by the exception that is handled -/
abbrev SpP := Addr × Obj → Sp
structure FnP (P : Program) (w : World) (K : PySem.W.Frag) (mg : Str → Option Value) (base : Heap) (CX : CXT) (k : Nat) (f : Addr) (fd : FuncData) (ps : List Str) (sp : SpP) : Prop where
  len : ∀ p vs H Q E, sp p vs H Q E → vs.length = ps.length
  run : ∀ (A : Around) (outer : List Env) (s : Shared) (H : Hp) (as : Args) (us : List Value) (vs : List V) (Q : VK) (E : XK) (p : Addr × Obj), RoomH k A → Hot1 A p → PinOk outer H s p → Env0 P w K mg base A outer s H → BindsTo s fd as (ps.zip us) → Vals vs us → sp p vs H Q E →
    codeAny (model P w) A (.call (.ref f) as) (CR CX outer P w H s Q E) s
/-- by its name -/
def OwnP (P : Program) (w : World) (K : PySem.W.Frag) (mg : Str → Option Value) (base : Heap) (x : Str) (ps : List Str) (k : Nat) (sp : SpP) : Prop :=
  ∃ (f : Addr) (fd : FuncData), FnP P w K mg base CX0 k f fd ps sp ∧ mg x = some (.ref f) ∧ PySem.W.keepIn K (.ref f) = true ∧ Binds K fd ps []
section
variable {CX : CXT} {P : Program} {w : World} {K : PySem.W.Frag} {mg : Str → Option Value} {base : Heap}
theorem okP {x qual : Str} {st : Stmt} {f : Addr} {fd : FuncData} {N ps : List Str} {k : Nat} {sp : SpP} (F : Fun K x qual st f fd) (S : FnScope N ps (defScope st)) (len : ∀ p vs H Q E, sp p vs H Q E → vs.length = ps.length)
    (hb : ∀ (cdv : Value) (A : Around) (outer : List Env) (s : Shared) (H : Hp) (vs : List V) (Q : VK) (E : XK) (p : Addr × Obj), Hot1 A p → RoomH k (A.deeper (envOfC qual (defScope st) s.heap.objs.size f cdv)) → sp p vs H Q E →
      ∃ t, PSs (cxH CX P w K mg base N qual (defScope st) f cdv A outer s H E p) (defBody st) t ∧ t { nx := fun _ H' => Q .non H', rt := Q } (L2.start N vs) H) :
    FnP P w K mg base CX (k + 1) f fd ps sp := by
  obtain ⟨_, _, _, _, _, _, cdv, _, _, rfl, lk, hcd⟩ := F.ex
  refine ⟨len, fun A outer s H as us vs Q E p hr hot hpin e0 hbd r z => ?_⟩
  have kb : ∀ b o, base.get? b = some o → s.heap.get? b = some o := fun b o y => (e0.bs b o y).1
  have KX := e0.mod.kin.keeps kb
  have lim := e0.mod.nolimit.keeps kb
  refine codeAny_call_function hr.depth (KX _ _ lk) rfl S.co S.gen rfl (PySem.W.codeRec_of KX hcd) (hbd _ _ _ _ (wpAny_newFunctionEnv_cells S.kind (fun y hy => ?_) fun env he s1 x => ?_))
  · exact (S.par y.1 (List.of_mem_zip hy).1).imp id fun q => ⟨q, PySem.W.cellsFrom_some _ _ _ (.inl q)⟩
  · cases he
    have kept := lim.keeps x.toInCall.keep
    refine ⟨kept, codeAny_func ?_⟩
    obtain ⟨t, ht, hq⟩ := hb cdv A outer s H vs Q E p hot (hr.deeper _) z
    have I0 : Inv (cxH CX P w K mg base N qual (defScope st) f cdv A outer s H E p) [] (L2.start N vs) H s1 := inv_startH S hpin e0 (len _ _ _ _ _ z) r x
    refine wpAny_mono (ht.run [] s1 _ H _ I0 hq) (fun fl s' y => ?_) fun u s' y => y
    match fl, y with
    | .ret u, ⟨v, _, H', J, rv, q⟩ => exact (⟨v, H', J.os, J.bare, J.base, J.hok, rv, q⟩ : CE outer P w H s Q u s')
    | .next, ⟨_, H', J, q⟩ => exact (⟨.non, H', J.os, J.bare, J.base, J.hok, rfl, q⟩ : CE outer P w H s Q .none s')
    | .brk, ⟨_, _, _, q⟩ => exact q.elim
    | .cont, ⟨_, _, _, q⟩ => exact q.elim
end
section
variable {X : Cx}
/-- the exception stands pinned in X -/
def HotP (X : Cx) (p : Addr × Obj) : Prop := Hot1 X.A p ∧ p ∈ X.pn
theorem HotP.c {p : Addr × Obj} (h : HotP X p) : HotC X := ⟨p, h.1, h.2⟩
theorem pe_ownP {x : Str} {ps : List Str} {k j : Nat} {sp : SpP} {pt : Addr × Obj} {e : Expr} {es : List Expr} {t : TA} {p pos : Pos} (d : OwnP X.prog X.w X.K X.mg X.base x ps k sp) (hp : HotP X pt) (hr : RoomH j X.A) (hj : k ≤ j) (hg : Gl X x) (ha : PA X (e :: es) t)
    (he : starEach (e :: es) X.env = (false, eval e X.env) :: starEach es X.env := by rfl) (hdb : (x == ("__debug__" : Str)) = false := by decide) (hpl : (backTo pos (starEach es X.env)).any (·.1) = false := by rfl) :
    PE X (.Call (.Name x p) (e :: es) [] pos) (tCall (sp pt) [] E0 t) := by
  obtain ⟨f, fd, F, hm, hk, hb⟩ := d
  refine ⟨fun pins s σ H Q I h => ?_⟩
  refine wpAny_Call_Name_kw (ld_glob I hg hm ?_ hdb)
  refine PySem.W.callWith_K (h₀ := X.base) I.mod.kin hk (thn (ha.run pos pins s σ H _ I h) fun us s1 z => ?_) he hpl
  obtain ⟨vs, H1, I1, r, q⟩ := z
  rw [List.append_nil] at q
  have b := hb s1 us I1.kIn (by
    rw [List.append_nil, ← r.length]
    exact F.len _ _ _ _ _ q)
  rw [List.append_nil] at b
  have y := I1.pin pt (List.mem_append_left _ hp.2)
  refine ⟨I1.kIn, wpAny_call (codeAny_mono (F.run X.A X.stack s1 H1 ⟨us, []⟩ us vs Q E0 pt (hr.mono hj) hp.1 ⟨y.1, y.2.1, fun m => ?_, y.2.2.2.2⟩ I1.env0 b r q) fun r' s' z => ?_)⟩
  · rcases List.mem_cons.mp (I1.stkSub pt.1 m) with m | m
    · exact y.2.2.1 m
    · exact y.2.2.2.1 m
  · match r', z with
    | .ok (.ret u), z => exact I1.after z
/-- what is to be known of the class D -/
structure ExK (K : PySem.W.Frag) (D : Addr) : Prop where
  cl : (PySem.W.clsIn K D).isSome = true
  ga : PySem.W.findIn K (.ref D) "__getattribute__" = some (some (.builtin "BaseException.__getattribute__"))
  gt : PySem.W.findIn K (.ref D) "__getattr__" = some none
  sb : PySem.W.subIn K (.ref D) (.type "BaseException") = some true
  ca : PySem.W.findIn K (.ref D) "__class__" = some (some (.builtin "object.__class__"))
  cg : PySem.W.specialIn K (.builtin "object.__class__") "__get__" = some (some (.builtin "getset_descriptor.__get__"))
  tc : PySem.W.takesIn K (.builtin "object.__class__") = some true
  mo : PySem.W.mroIn K D (.type "object") = some true
/-- the exception pinned at p is of the class D, its dict d -/
structure IsEx (D : Addr) (d : Option Addr) (p : Addr × Obj) : Prop where
  cl : p.2.cls = .ref D
  di : p.2.dict = d
  fs : ∃ vs, p.2.data = .fields vs
/-- isinstance(e, c) of the pinned one; its dict, if it has one, stands tracked -/
def rIsP (K : PySem.W.Frag) (D : Addr) (d : Option Addr) (p : Addr × Obj) : List V → Hp → VK → Prop := fun xs H Q => ∃ (c : V) (cv : Value) (b : Bool), xs = [.ref p.1, c] ∧ (∀ u, RelV c u → u = cv) ∧ (∀ a, d = some a → ∃ fs, H a = some (.xd fs)) ∧ PySem.W.kitOne K (.ref D) cv = some b ∧ Q (.bl b) H
theorem call_isP {D : Addr} {d : Option Addr} {p : Addr × Obj} (C : ExK X.K D) (hp : p ∈ X.pn) (hx : IsEx D d p) : CallR X (.builtin "isinstance") (rIsP X.K D d p) := by
  intro pins s σ H xs us Q I r h
  obtain ⟨c, cv, b, rfl, hcv, hd, e, q⟩ := h
  match us, r with
  | [_, u], .cons r1 (.cons r2 .nil) =>
    cases r1
    have ec := hcv u r2
    subst ec
    have y := (I.pin p (List.mem_append_left _ hp)).1
    obtain ⟨vs, hv⟩ := hx.fs
    have nc : PySem.W.notCls p.2 = true := by
      unfold PySem.W.notCls
      rw [hv]
    have J : ∃ od, PySem.W.InstAt s.heap p.1 p.2 D od := by
      cases d with
      | none => exact ⟨none, y, hx.cl, nc, by
          rw [hx.di]
          trivial⟩
      | some a =>
        obtain ⟨fs, hd⟩ := hd a rfl
        have hz : ObjOk X.prog X.w H s.heap a (.xd fs) := I.hok a _ hd
        obtain ⟨mA, hns, _⟩ := hz
        obtain ⟨od, ho, _⟩ := lookIn_ns hns
        exact ⟨some od, y, hx.cl, nc, by
          rw [hx.di]
          exact ho⟩
    obtain ⟨od, J⟩ := J
    exact PySem.W.kia_one (PySem.W.kitx_exc C.cl C.ga C.gt C.sb C.ca C.cg C.tc C.mo) I.kIn J e (fun z => nomatch z) fun tk => ⟨.bl b, H, I.kept (t' := tk) fun _ _ z => z, rfl, q⟩
end
end Tc
/-! a list comprehension in a def that an except suite calls -/
namespace Tc
open PySem PySem.Spec PyProof.Rows L2 L2H
/-- the block, the exception pinned in it -/
abbrev blkH (X : Cx) (s : Shared) (H : Hp) (sc : Scope) (ce : Env) (fp : List Addr) (pt : Addr × Obj) : Cx := { X.blk s H sc ce fp with pn := [pt] }
section
variable {X : Cx} {pins : List (Addr × Obj)} {σ : L2.St} {H : Hp} {s : Shared} {pt : Addr × Obj}
theorem inv_blkH {sc : Scope} {own : List (Str × Nat)} {fp : List Addr} (I : Inv X pins σ H s) (ok : BlkOk X.N X.env.scope sc own) (hN : X.N.Nodup) (hp : pt ∈ X.pn) (hf : ∀ b ∈ fp, FpOk X pins H b ∧ b < s.heap.objs.size) :
    Inv (blkH X s H sc (compEnvC sc (cellsFrom (s.heap.objs.size + 1) sc.names (cloFrom X.env.cells sc.names [])) s.heap.objs.size X.env) fp pt) [] (wipe σ (own.map (·.2))) H { s with heap := pushCells (s.heap.push { cls := .type "dict", data := .dict #[] }) sc.names } := by
  have J := block_start I ok hN hf
  have y := I.pin pt (List.mem_append_left _ hp)
  have o := J.ok
  refine ⟨⟨o.mod, o.kind, o.glob, o.blt, o.above, o.inj, o.has, o.cab, o.hd, o.frames, o.stk, o.exf, o.bs, o.bsz, o.noex, o.exfs, o.funs, o.frf⟩, J.os, J.bare, J.base, J.loc, J.cell, J.free, J.freeC, fun q hq => ?_, J.hok, J.len⟩
  have e : q = pt := by simpa using (show q ∈ [pt] ++ ([] : List (Addr × Obj)) from hq)
  subst e
  refine ⟨pushCells_keeps _ _ _ _ (Heap.get?_push_of_some _ y.1), y.2.1, Nat.ne_of_lt (Heap.lt_size y.1), fun m => ?_, y.2.2.2.2⟩
  rcases List.mem_cons.mp (I.stkSub q.1 m) with m | m
  · exact y.2.2.1 m
  · exact y.2.2.2.1 m
end
section
variable {X : Cx} {pt : Addr × Obj}
set_option maxHeartbeats 2000000 in
theorem pe_lcH {elt tg iter : Expr} {ifs : List Expr} {sc : Scope} {own : List (Str × Nat)} {pos : Pos} {wi : TI} {g : TG} {tt : TT} {te : TE} (hp : HotP X pt) (hN : X.N.Nodup) (hi : PIH X tg iter wi) (ok : BlkOk X.N X.env.scope sc own)
    (hg : ∀ (s : Shared) (H : Hp) (C : Addr) (cl : List (Str × Addr)) (fp : List Addr), PG (blkH X s H sc (compEnvC sc cl C X.env) fp pt) tg g) (ht : ∀ (s : Shared) (H : Hp) (C : Addr) (cl : List (Str × Addr)) (fp : List Addr), PTs (blkH X s H sc (compEnvC sc cl C X.env) fp pt) ifs tt)
    (he : ∀ (s : Shared) (H : Hp) (C : Addr) (cl : List (Str × Addr)) (fp : List Addr), PE (blkH X s H sc (compEnvC sc cl C X.env) fp pt) elt te) (hs : ∀ x, foldedSetIterable iter X.env x = pure x := by intro _; rfl) :
    PE X (.ListComp elt [⟨tg, iter, ifs, 0⟩] sc pos) (tLc wi g tt te (own.map (·.2))) := by
  refine ⟨fun pins s σ H Q I h => ?_⟩
  rw [eval_ListComp]
  have fr : ∀ y ∈ sc.names, y.2 = .free → ∃ c, X.env.cells.lookup y.1 = some c := fun y hy e => I.ok.has _ (ok.free y hy e)
  refine wpAny_comprehension_free (use := none) rfl hs (closure_ok fr) ok.kind (fun y hy e => (ok.uniq y hy).trans (congrArg some e)) (thn (hi.run pins s σ H _ I h) fun xv s1 hx => thn hx fun iv s2 z => ?_)
  obtain ⟨it, fp, tn, J, H2, ei, I2, T, t2, f2, q⟩ := z
  subst ei
  refine wpAny_newObj_type (newEnv_comp ?_) (Nat.zero_le _)
  have nD : H2 s2.heap.objs.size = none := I2.hok.fresh (Nat.le_refl _)
  have J3 : Inv X pins σ (upd H2 s2.heap.objs.size (.lst [])) { s2 with heap := s2.heap.push { cls := .type "list", data := .seq ([] : List Value).toArray } } :=
    I2.laid (t' := s2.toks) (fun b o e => Heap.get?_push_of_some _ e) (Nat.le_refl _) ⟨Nat.zero_le _, [], 0, .nil, Heap.get?_push_size _ rfl⟩
  have fpl : ∀ b ∈ fp, b < s2.heap.objs.size := fun b hb => by
    obtain ⟨o, e, _⟩ := T.obj _ _ t2 b hb
    exact Heap.lt_size e
  have f3 : ∀ b ∈ fp, FpOk X pins (upd H2 s2.heap.objs.size (.lst [])) b ∧ b < (s2.heap.push { cls := .type "list", data := .seq ([] : List Value).toArray }).objs.size := fun b hb =>
    ⟨⟨(upd_ne (Nat.ne_of_lt (fpl b hb))).trans (f2 b hb).1, (f2 b hb).2⟩, by
      rw [Heap.size_push]
      exact Nat.lt_succ_of_lt (fpl b hb)⟩
  have t3 : tn 0 (s2.heap.push { cls := .type "list", data := .seq ([] : List Value).toArray }) := T.keep _ _ _ t2 fun b _ o e => Heap.get?_push_of_some _ e
  obtain ⟨W, ⟨m0, w0⟩, turn⟩ := q _ nD
  generalize s2.heap.objs.size = D at *
  generalize upd H2 D (.lst []) = H3 at *
  obtain ⟨s3, e3⟩ : ∃ s3 : Shared, s3 = { s2 with heap := s2.heap.push { cls := .type "list", data := .seq ([] : List Value).toArray } } := ⟨_, rfl⟩
  have e3h : s3.heap = s2.heap.push { cls := .type "list", data := .seq ([] : List Value).toArray } := by rw [e3]
  rw [← e3] at J3 ⊢
  rw [← e3h] at f3 t3
  have J4 := inv_blkH J3 ok hN hp.2 f3
  have pg := hg s3 H3 s3.heap.objs.size (cellsFrom (s3.heap.objs.size + 1) sc.names (cloFrom X.env.cells sc.names [])) fp
  have ps := ht s3 H3 s3.heap.objs.size (cellsFrom (s3.heap.objs.size + 1) sc.names (cloFrom X.env.cells sc.names [])) fp
  have pe := he s3 H3 s3.heap.objs.size (cellsFrom (s3.heap.objs.size + 1) sc.names (cloFrom X.env.cells sc.names [])) fp
  have t4 : tn 0 (pushCells (s3.heap.push { cls := .type "dict", data := .dict #[] }) sc.names) := T.keep _ _ _ t3 fun b _ o e => pushCells_keeps _ _ _ _ (Heap.get?_push_of_some _ e)
  show codeAny _ _ (.compStart (.ListComp elt [⟨tg, iter, ifs, 0⟩] sc pos) 0 (.ref it) (.ref D) (compEnvC sc (cellsFrom (s3.heap.objs.size + 1) sc.names (cloFrom X.env.cells sc.names [])) s3.heap.objs.size X.env)) (compPost (model X.prog X.w) X.A X.xe none _ (.ref D) s3.heap.objs.size) { s3 with heap := pushCells (s3.heap.push { cls := .type "dict", data := .dict #[] }) sc.names }
  obtain ⟨ce, hce⟩ : ∃ ce, ce = compEnvC sc (cellsFrom (s3.heap.objs.size + 1) sc.names (cloFrom X.env.cells sc.names [])) s3.heap.objs.size X.env := ⟨_, rfl⟩
  have loc : ce.locals = s3.heap.objs.size := by
    rw [hce]
    rfl
  rw [← hce] at J4 pg ps pe ⊢
  obtain ⟨s4, e4⟩ : ∃ s4 : Shared, s4 = { s3 with heap := pushCells (s3.heap.push { cls := .type "dict", data := .dict #[] }) sc.names } := ⟨_, rfl⟩
  have e4h : s4.heap = pushCells (s3.heap.push { cls := .type "dict", data := .dict #[] }) sc.names := by rw [e4]
  rw [← e4h] at t4
  rw [← e4] at J4 ⊢
  obtain ⟨Y, hY⟩ : ∃ Y, Y = blkH X s3 H3 sc ce fp pt := ⟨_, rfl⟩
  have hot : HotC Y := by
    rw [hY]
    exact ⟨pt, hp.1, List.mem_singleton.mpr rfl⟩
  have foot : ∀ {σ' : L2.St} {H' : Hp} {s' : Shared}, Inv Y [] σ' H' s' → (∀ b ∈ fp, H' b = none) → ∀ b ∈ fp, FpOk Y [] H' b := fun {σ' H' s'} I' hn b hb => by
    subst hY
    refine ⟨hn b hb, (I'.ok.exf b hb).1, I'.ok.exfs b hb, .inl hb, (I'.ok.exf b hb).2, fun q hq => ?_⟩
    have e : q = pt := by simpa using (show q ∈ [pt] ++ ([] : List (Addr × Obj)) from hq)
    subst e
    exact (f2 b hb).2.2.2.2.2 q (List.mem_append_left _ hp.2)
  have loop : codeAny (model X.prog X.w) X.A (.compLoop (.ListComp elt [⟨tg, iter, ifs, 0⟩] sc pos) 0 (.ref it) (.ref D) ce) (compPost (model X.prog X.w) X.A X.xe none (EP X pins σ Q) (.ref D) s3.heap.objs.size) s4 := by
    refine compLoop_any (fun n s' => ∃ i H', Inv Y [] (wipe σ (own.map (·.2))) H' s' ∧ tn i s'.heap ∧ (∀ b ∈ fp, H' b = none) ∧ W i n H') ?_ m0 ⟨0, H3, by rw [hY]; exact J4, t4, fun b hb => (f3 b hb).1.1, w0⟩
    rintro n s5 ⟨i, H5, J5, t5, n5, w5⟩
    have P1 : Y.prog = X.prog := by rw [hY]
    have P2 : Y.w = X.w := by rw [hY]
    have P3 : Y.K = X.K := by rw [hY]
    have P4 : Y.A = X.A := by rw [hY]
    rcases turn i n H5 w5 with ⟨halt, qq⟩ | ⟨go, Nx, hNx, step⟩
    · have td := T.done Y P1 P2 P3 hot i [] s5 _ H5 (fun _ _ => False) J5 (foot J5 n5) t5 halt
      rw [P4] at td
      refine thnF td fun r s6 y => ?_
      obtain ⟨hr, J6⟩ := y
      subst hr hY
      have J7 : Inv X pins σ H5 s6 := J3.call' (ch := fp) J6.os J6.base J6.hok J6.bare fun b hb => ⟨(f3 b hb).1.2.2.2.1, (f3 b hb).1.2.1, (f3 b hb).1.2.2.2.2.1, (f3 b hb).1.2.2.2.2.2⟩
      have nC : H5 s3.heap.objs.size = none := loc ▸ (J6.free : H5 ce.locals = none)
      obtain ⟨m, hn, _⟩ := J6.loc
      replace hn : s6.heap.Ns ce.locals m := hn
      rw [loc] at hn
      obtain ⟨a0, a1, a2, a3, a4, a5⟩ := J3.fpOk (b := s3.heap.objs.size) (Nat.le_refl _) nC
      exact ⟨m, hn, fun h' sb => ⟨.ref D, H5, J7.turned (t' := s6.toks) (fun b o hb e => (sb.2 b hb).trans e) a0 a1 a3 a4 a5, rfl, qq⟩⟩
    · have ti := T.item Y P1 P2 P3 hot i [] s5 _ H5 (fun _ _ => False) J5 (foot J5 n5) t5 go
      rw [P4] at ti
      refine thnF ti fun r s6 y => ?_
      obtain ⟨u, hr, y⟩ := y
      subst hr
      refine thnF y fun _ s7 y => ?_
      obtain ⟨x, H7, J7, r7, y7, t7, n7⟩ := y
      have J7' := J7.pinned (foot J7 n7) (T.obj _ _ t7)
      subst hY
      refine thnF (pg.run _ s7 _ H7 x u _ J7' r7 (step x H7 y7)) fun _ s8 y => ?_
      obtain ⟨σ8, H8, J8, hw, q8⟩ := y
      refine thnF (ps.run _ s8 σ8 H8 _ J8 q8) fun b s9 y => ?_
      obtain ⟨H9, J9, q9⟩ := y
      have fin : ∀ {s' : Shared} {H' : Hp}, Inv (blkH X s3 H3 sc ce fp pt) ([] ++ pinsAt fp s7.heap) σ8 H' s' → Nx H' → ∃ m, m < n ∧ ∃ i H', Inv (blkH X s3 H3 sc ce fp pt) [] (wipe σ (own.map (·.2))) H' s' ∧ tn i s'.heap ∧ (∀ b ∈ fp, H' b = none) ∧ W i m H' := fun {s' H'} I' nx => by
        obtain ⟨m', hm', w'⟩ := hNx H' nx
        have pin : ∀ b ∈ fp, ∀ o, s7.heap.get? b = some o → s'.heap.get? b = some o ∧ H' b = none := fun b hb o e => by
          have z := I'.pin (b, o) (List.mem_append_right _ (List.mem_append_right _ (mem_pinsAt hb e)))
          exact ⟨z.1, z.2.1⟩
        refine ⟨m', hm', i + 1, H', (I'.unpinned (pins := [])).weak (by rw [← hw, wipe_length]) (fun j v e => ?_), T.keep _ _ _ t7 fun b hb o e => (pin b hb o e).1, fun b hb => ?_, w'⟩
        · exact (wipe_some (hw.symm ▸ e)).1
        · obtain ⟨o, e, _⟩ := T.obj _ _ t7 b hb
          exact (pin b hb o e).2
      cases b with
      | false => exact fin J9 (by simpa using q9)
      | true =>
        rw [if_pos rfl] at q9 ⊢
        refine thnF (pe.run _ s9 σ8 H9 _ J9 q9) fun v s10 y => ?_
        obtain ⟨yv, H10, J10, r10, acc, hD, hz, nx⟩ := y
        exact app_ok (X := blkH X s3 H3 sc ce fp pt) J10 hD hz r10 fun s11 J11 => fin J11 nx
  exact codeAny_compStart_list loop (T.self X.A 0 _ _ _ t4 loop)
end
end Tc
/-! a, b = x, y in an except suite -/
namespace Tc
open PySem PySem.Spec PyProof.Rows L2 L2H HotX
section
variable {prog : Program} {w : World} {A : Around} {E : Value → Shared → Prop} {s : Shared}
/-- StopIteration is made and let go while another exception is handled -/
theorem stop_hot {xa : Addr} {Q : Fin → Shared → Prop} (hot : HotAt A xa s.heap) (hE : ∀ (h' : Heap) (e : Addr), (∀ b o, s.heap.get? b = some o → h'.get? b = some o) → Shared.TypeIs { s with heap := h' } (.ref e) "StopIteration" → E (.ref e) { s with heap := h' }) :
    wpAny (model prog w) A Builtin.SmallTypes.stopIteration Q E s := by
  obtain ⟨hh, o1, v1, h1, d1, c1⟩ := hot
  show wpAny _ _ (newExc (.type "StopIteration") [] >>= _) _ _ _
  refine wpAny_bind ?_
  simp only [newExc, newTuple]
  refine wpAny_bind (wpAny_newObj_type ?_ (by size_fits))
  refine wpAny_bind (m := firstArgMember _ _) (wpAny_of_eq (a := Value.none) (by first | rfl | (simp only [firstArgMember]; rfl)) (wpAny_newObj_type ?_ (by size_fits)))
  refine raiseNew_hot ⟨hh, o1, v1, Heap.get?_push_of_some _ (Heap.get?_push_of_some _ h1), d1, c1⟩ (Nat.ne_of_lt (Heap.lt_size (Heap.get?_push_of_some _ h1))) (Heap.get?_push_size _ rfl) rfl (by first | (simp; done) | (simp; omega)) (hE _ _ (fun b o e => ?_) ⟨_, Heap.get?_update_self _ (Heap.get?_push_size _ rfl) rfl, rfl⟩)
  have lt := Heap.lt_size (Heap.get?_push_of_some { cls := .type "tuple", data := .seq ([] : List Value).toArray } e)
  rw [Heap.get?_update_other _ _ (Nat.ne_of_gt lt)]
  exact Heap.get?_push_of_some _ (Heap.get?_push_of_some _ e)
/-- a tuple's iterator at its end, an exception being handled -/
theorem tup_end_hot {it t xa : Addr} {i : Nat} {its : Array Value} {Q : Option Value → Shared → Prop} (hot : HotAt A xa s.heap) (hne : xa ≠ it) (hit : IsTupIter s.heap it t i) (ht : IsTup s.heap t its) (hx : its[i]? = none)
    (hQ : ∀ h', Heap.ExtBut it s.heap h' → Q none { s with heap := h' }) :
    wpAny (model prog w) A (pyNext (.ref it)) Q E s := by
  obtain ⟨hh, o1, v1, h1, d1, c1⟩ := hot
  obtain ⟨o, ho, hc, hd⟩ := (show IsTupIter s.heap it t i from hit)
  obtain ⟨ol, hol, _, nl, hl⟩ := ht
  unfold pyNext
  refine wpAny_bind (wpAny_attempt (wpAny_callSpecial?_slot (name := Str.ofString "__next__") hit.typeIs slot_tupleiter_next (wpAny_call_entry slot_tupleiter_next hit.typeIs entry_tupleiter_next (?_ : wpAny _ _ (field (.ref it) 0 >>= _) _ _ s) (args_tupleiter_next _))))
  refine wpAny_bind (wpAny_field ho hd (x := .ref t) rfl (?_ : wpAny _ _ (if (Value.ref t == Value.none) = true then _ else _) _ _ s))
  rw [if_neg (show ¬ (Value.ref t == Value.none) = true by simp)]
  refine (?_ : wpAny _ _ (field (.ref it) 1 >>= _) _ _ s)
  refine wpAny_bind (wpAny_field ho hd (x := .int i 0) rfl ?_)
  refine (?_ : wpAny _ _ (seqItems? (.ref t) >>= _) _ _ s)
  refine wpAny_bind (wpAny_seqItems hol hl ?_)
  simp only [Int.toNat_natCast, hx]
  refine wpAny_bind (wpAny_rule (wpAny_bind (wpAny_setField ho hd (by simp) (stop_hot (xa := xa) ⟨hh, o1, v1, ?_, d1, c1⟩ fun h' e k ty => ?_))))
  · exact (Heap.get?_update_other _ _ (Ne.symm hne)).trans h1
  · refine wpAny_bind (wpAny_isInstance (T := "StopIteration") (b := true) ty isSubtype_stop (wpAny_pure (hQ h' fun b ob hb eb => k b ob ?_)))
    exact (Heap.get?_update_other _ _ (Ne.symm hb)).trans eb
theorem unpack_hot {t xa : Addr} {its : Array Value} {Q : List Value → Shared → Prop} (hot : HotAt A xa s.heap) (ht : IsTup s.heap t its)
    (hQ : ∀ h', Heap.ExtBut s.heap.objs.size s.heap h' → Q its.toList { s with heap := h' }) : wpAny (model prog w) A (unpackItems (.ref t) its.size none) Q E s := by
  have lt : t ≠ s.heap.objs.size := by
    obtain ⟨o, ho, _⟩ := ht
    exact Nat.ne_of_lt (Heap.lt_size ho)
  obtain ⟨hh, o1, v1, h1, r1⟩ := hot
  have lx : xa ≠ s.heap.objs.size := Nat.ne_of_lt (Heap.lt_size h1)
  unfold unpackItems notIterableAtAll
  refine wpAny_bind (wpAny_bind (wpAny_specialOf ht.typeIs slot_tuple_iter.lookup (wpAny_pure ?_)))
  simp only [Bool.false_eq_true, if_false]
  refine wpAny_bind (wpAny_holding (iter_tuple ht (wpAny_bind (wpAny_holding (draw_tuple lt its.size 0 _ _ ⟨_, Heap.get?_push_size _ rfl, rfl, rfl⟩ (ht.push _) (by omega) fun h₁ i1 s1 => ?_)))))
  rw [List.drop_zero, List.take_of_length_le (by simp), if_neg (by simp)]
  refine wpAny_bind (wpAny_holding (tup_end_hot (xa := xa) ⟨hh, o1, v1, (s1.2 xa lx).trans (Heap.get?_push_of_some _ h1), r1⟩ lx i1 ((ht.push _).extBut s1.extBut lt) (by simp) fun h₂ e2 => ?_))
  simp only [Option.isSome_none, Bool.false_eq_true, if_false]
  exact wpAny_pure (hQ h₂ fun b o hb e => e2 b o hb (s1.extBut b o hb (Heap.get?_push_of_some _ e)))
end
section
variable {X : Cx} {pos : Pos}
/-- two names as targets -/
abbrev tg2 (x y : Str) (px py : Pos) (kt : _root_.Nat) (pt : Pos) : Expr := .Tuple [.Name x px, .Name y py] kt pt
theorem pe_never {e : Expr} : PE X e (fun _ _ _ => False) := ⟨fun _ _ _ _ _ _ h => h.elim⟩
/-- x, y = a, b of two local names -/
theorem ps_parH {i j : Nat} {x y : Str} {a b : Expr} {ta : TA} {px py pt : Pos} {kt k2 pt2} (hc : HotC X) (hN : X.N.Nodup) (hi : X.N[i]? = some x) (hj : X.N[j]? = some y) (hij : i ≠ j)
    (hx : X.env.scope.names.lookup x = some .local)
    (hy : X.env.scope.names.lookup y = some .local) (ha : PA X [a, b] ta)
    (hw : swappedStores [tg2 x y px py kt pt] (.Tuple [a, b] k2 pt2) X.env = pure (some [x, y])) (hs : swapsWithSole [tg2 x y px py kt pt] (.Tuple [a, b] k2 pt2) pos.line X.env = pure false := by rfl) :
    PS X (.Assign [tg2 x y px py kt pt] (.Tuple [a, b] k2 pt2) pos) (tPar i j ta) := by
  refine ⟨fun pins s σ H D I h => ?_⟩
  rw [exec_Assign_arm]
  refine wpAny_bind (wpAny_standAt ?_)
  rw [hs]
  refine wpAny_bind (wpAny_pure ?_)
  rw [if_neg Bool.false_ne_true]
  refine wpAny_bind (Tuple_ (thn (ha.run _ pins s σ H _ I h) fun us s1 z => ?_))
  obtain ⟨_, H1, I1, r1, v, u, rfl, q1⟩ := z
  match us, r1 with
  | [u1, u2], .cons rv (.cons ru .nil) =>
    refine wpAny_newObj_type ?_ (show 2 ≤ sizeLine by decide)
    have I2 := I1.kept (t' := s1.toks) fun b o e => Heap.get?_push_of_some { cls := .type "tuple", data := .seq [u1, u2].toArray } e
    obtain ⟨xa, hot⟩ := hc.at I2
    rw [hw]
    refine wpAny_bind (wpAny_pure (?_ : wpAny (model X.prog X.w) X.A (do rule "assign.swapped-stores"; let items ← unpackItems (.ref s1.heap.objs.size) 2 none; assignInOrder [fun v => bindName X.env y v, fun v => bindName X.env x v] items.reverse; pure Flow.next) _ _ _))
    refine wpAny_bind (wpAny_rule (wpAny_bind (unpack_hot (its := #[u1, u2]) hot (IsTup.new s1.heap _) fun h' e' => ?_)))
    have I3 := I2.kept (h' := h') (t' := s1.toks) fun b o e => e' b o (Nat.ne_of_lt (Heap.lt_size e)) e
    refine wpAny_bind (?_ : wpAny _ _ (assignInOrder [fun v => bindName X.env y v, fun v => bindName X.env x v] [u2, u1]) _ _ _)
    refine assignInOrder_cons (wpAny_bindName (store_ok I3 hN hj (.inl hy) ru (fun s2 I4 => assignInOrder_cons (wpAny_bindName (store_ok I4 hN hi (.inl hx) rv (fun s3 I5 => assignInOrder_nil (wpAny_pure ⟨_, H1, ?_, q1⟩)) (.inr hx)))) (.inr hy)))
    rw [List.set_comm _ _ hij]
    exact I5
end
end Tc
/-! exceptions of the text: what is known of a class; raised, told apart by their kinds -/
namespace Tc
open PySem L2 L2H PyProof.Rows Evl NdefX
/-- an own __init__ that keeps a number as its field f -/
def spX1 (C : Addr) (f : Str) : Sp := fun vs H Q _ => ∃ (a : Addr) (i : Int), vs = [.ref a, .int i] ∧ H a = some (exo a C none) ∧ i.natAbs.log2 < 1920 ∧
  ∀ d H', H d = none → d ≠ a → H' a = some (exo a C (some d)) → H' d = some (exd d [(f, .int i)]) → (∀ b o, b ≠ a → H b = some o → H' b = some o) → Q .non H'
/-- what super() asks of a def of a class -/
structure SupF (P : Program) (K : PySem.W.Frag) (mg : Str → Option Value) (C cda : Addr) : Prop where
  cd : ∃ (oc : Obj) (vs : Array Value) (file : Str) (tf : Tok), K.lookup cda = some oc ∧ oc.data = .fields vs ∧ vs[2]? = some (.str file tf) ∧ ((P.main.file : Str) == file) = true
  top : (P.main.scope.names.lookup ("super" : Str)).isSome = false
  mg : mg "super" = none
  cl : ∃ cdC : ClassData, PySem.W.clsIn K C = some cdC
  mr : PySem.W.mroIn K C (.ref C) = some true
  op : PySem.W.nsIn K cStatics "thirdparty.any" = some none
  su : PySem.W.ks_superIn K C C "__init__" = some (some (.builtin "ValueError.__init__"))
  ve : PySem.W.subIn K (.ref C) (.type "ValueError") = some true
theorem text_fits {i : Int} {x : Str} (hx : x.length ≤ 1000) (h : i.natAbs.log2 < 1920) : (x ++ Str.ofString (toString i)).length ≤ sizeLine := by
  have e0 := int_text_length_le (k := 1920) (by decide) h
  have e2 := PySem.ofString_length (toString i)
  rw [Str.length_append, sizeLine_eq]
  omega
/-- an exception of the text under its name, with what its __init__ keeps -/
def OwnE (P : Program) (w : World) (K : PySem.W.Frag) (mg : Str → Option Value) (base : Heap) (x : Str) (C : Addr) (ps : List Str) (k : Nat) (sp : Sp) : Prop :=
  ∃ (f : Addr) (fd : FuncData), FnOk P w K mg base CX0 k f fd ps sp ∧ OexC K C ∧ PySem.W.findIn K (.ref C) "__init__" = some (some (.ref f)) ∧ PySem.W.typeIn K (.ref f) = some (.type "function") ∧ mg x = some (.ref C) ∧ Binds K fd ps []
theorem ps_raiseE {X : Cx} {W : WX} {x : Str} {C : Addr} {ps : List Str} {k j : Nat} {sp : Sp} {e : Expr} {es : List Expr} {t : TA} {p pos pos' : Pos} (d : OwnE X.prog X.w X.K X.mg X.base x C ps k sp) (hc : X.calm = true) (tk : L2N.Takes X W) (hr : Room j X.A) (hj : k + 1 ≤ j) (hg : Gl X x) (ha : PA X (e :: es) t)
    (hdb : (x == ("__debug__" : Str)) = false := by decide)
    (he : starEach (e :: es) X.env = (false, eval e X.env) :: starEach es X.env := by rfl) (hpl : (backTo pos (starEach es X.env)).any (·.1) = false := by rfl) :
    PS X (.Raise (some (.Call (.Name x p) (e :: es) [] pos)) none pos') (fun _ σ H => tMkO C sp [] t σ H fun cls d H' => W cls d σ H') := by
  obtain ⟨f, fd, F, T, i, ty, hm, hb⟩ := d
  exact L2N.ps_raise hc tk (pmkN T i ty F (hr.mono hj) hb pass0 hg hm ha hdb he hpl)
def clN : List Str := ["AskedError", "ToldError", "Ended", "Held", "NoChange", "NoKey", "NoLife", "NoName", "NoPlace", "NoReading", "NoRow", "NoRows", "NoStretch", "NoTable", "NoTaker", "NoText", "NotAsked", "NotEnded", "NothingLeft", "NotOnWire", "NotSure", "TooMany", "Trimmed", "Twice", "Waits"]
def kdN : List Str := ["asked ", "told ", "Ended", "Held", "NoChange", "NoKey", "NoLife", "NoName", "NoPlace", "NoReading", "NoRow", "NoRows", "NoStretch", "NoTable", "NoTaker", "NoText", "NotAsked", "NotEnded", "NothingLeft", "NotOnWire", "NotSure", "TooMany", "Trimmed", "Twice", "Waits", "+"]
/-- which of the classes an exception of D is -/
structure Kd (K : PySem.W.Frag) (mg : Str → Option Value) (D : Addr) (fl : List Bool) : Prop where
  ck : ExK K D
  one : ∀ i x, clN[i]? = some x → ∃ c, mg x = some (.ref c) ∧ PySem.W.kitOne K (.ref D) (.ref c) = some (fl.getD i false)
  ve : PySem.W.kitOne K (.ref D) (.type "ValueError") = some (fl.getD 25 false)
def kindsL (fl : List Bool) : List Str := ((List.range 26).filter (fl.getD · false)).map (kdN.getD · "")
def spKinds (K : PySem.W.Frag) (mg : Str → Option Value) : SpP := fun p vs H Q _ => ∃ (D : Addr) (d : Option Addr) (fl : List Bool), vs = [.ref p.1] ∧ Kd K mg D fl ∧ IsEx D d p ∧ (∀ a, d = some a → ∃ fs, H a = some (.xd fs)) ∧ ∀ H', Ex H H' → Q (.str (Txt.join "" (kindsL fl))) H'
def tIs (pt : Addr × Obj) (d : Option Addr) (b : Bool) (te : TE) : TE := fun σ H Q => te σ H fun v H1 => v = .ref pt.1 ∧ (∀ a, d = some a → ∃ fs, H1 a = some (.xd fs)) ∧ Q (.bl b) H1
theorem xs_ex {d : Option Addr} {H H' : Hp} (x : Ex H H') (h : ∀ a, d = some a → ∃ fs, H a = some (.xd fs)) : ∀ a, d = some a → ∃ fs, H' a = some (.xd fs) := fun a e => by
  obtain ⟨fs, y⟩ := h a e
  exact ⟨fs, x a _ y⟩
theorem ev_is1 {pt : Addr × Obj} {d : Option Addr} {b : Bool} {te : TE} {σ : L2.St} {H : Hp} (h : Ev te σ H (.ref pt.1)) (hd : ∀ a, d = some a → ∃ fs, H a = some (.xd fs)) : Ev (tIs pt d b te) σ H (.bl b) := fun H1 e Q q => h H1 e _ fun H2 e2 => ⟨rfl, xs_ex (e.trans e2) hd, q H2 e2⟩
theorem el_catV {p : Addr} {xs ys : List V} {ta tb : TE} {σ : L2.St} {H : Hp} (ha : Ev ta σ H (.ref p)) (hp : H p = some (.lst xs)) (hb : EvL tb σ H ys) (hl : xs.length + ys.length ≤ 100000) : EvL (tOp rCat ta tb) σ H (xs ++ ys) := fun H1 e Q q =>
  ha H1 e _ fun H2 e2 => hb H2 (e.trans e2) _ fun p2 H3 n2 e3 h3 => ⟨p, p2, xs, ys, rfl, rfl, (e2.trans e3) p _ (e p _ hp), h3, sz_of hl, fun l hn => q l _ (fresh_back (e2.trans e3) hn) ((e2.trans e3).trans (Ex.new hn)) upd_same⟩
section
variable {X : Cx} {D : Addr} {d : Option Addr} {pt : Addr × Obj} {y : Str} {te : TE} {p p1 p2 pos : Pos} {b : Bool}
theorem pe_is1 {x : Str} {i : Nat} (C : ExK X.K D) (hp : pt ∈ X.pn) (hx : IsEx D d pt) (gi : Gl X "isinstance") (ni : X.mg "isinstance" = none) (g : Gl X x) (hm : ∃ c, X.mg x = some (.ref c) ∧ PySem.W.kitOne X.K (.ref D) (.ref c) = some b) (he : PE X (.Name y p1) (tVar i))
    (hd : (x == ("__debug__" : Str)) = false := by decide) : PE X (.Call (.Name "isinstance" p) [.Name y p1, .Name x p2] [] pos) (tIs pt d b (tVar i)) := by
  obtain ⟨c, hm, hk⟩ := hm
  have r := pe_callB (pos := pos) (p := p) (call_isP C hp hx) gi ni boot_isinstance (pa_cons he (pa_cons (pe_glob (pos := p2) (v := .ref c) g hm rfl hd) pa_nil))
  refine ⟨fun pins s σ H Q I h => r.run pins s σ H Q I ?_⟩
  obtain ⟨v, h1, rfl, h2, q⟩ := h
  exact ⟨_, h1, .ref c, .ref c, b, rfl, fun u z => z, h2, hk, q⟩
theorem pe_isV {i : Nat} (C : ExK X.K D) (hp : pt ∈ X.pn) (hx : IsEx D d pt) (gi : Gl X "isinstance") (ni : X.mg "isinstance" = none) (g : Gl X "ValueError") (hm : X.mg "ValueError" = none) (hk : PySem.W.kitOne X.K (.ref D) (.type "ValueError") = some b) (he : PE X (.Name y p1) (tVar i)) : PE X (.Call (.Name "isinstance" p) [.Name y p1, .Name "ValueError" p2] [] pos) (tIs pt d b (tVar i)) := by
  have r := pe_callB (pos := pos) (p := p) (call_isP C hp hx) gi ni boot_isinstance (pa_cons he (pa_cons (pe_bltn (pos := p2) (v := .ty "ValueError") g hm PyProof.Rows.Boot.«ValueError» rfl) pa_nil))
  refine ⟨fun pins s σ H Q I h => r.run pins s σ H Q I ?_⟩
  obtain ⟨v, h1, rfl, h2, q⟩ := h
  exact ⟨_, h1, .ty "ValueError", .type "ValueError", b, rfl, fun u z => z, h2, hk, q⟩
end
theorem sum_le {l : List Str} (h : ∀ y ∈ l, y.length ≤ 20) : (l.map (·.length)).sum ≤ 20 * l.length := by
  induction l with
  | nil => exact Nat.le_refl _
  | cons a l ih =>
    have h1 := h a List.mem_cons_self
    have h2 := ih fun y m => h y (List.mem_cons_of_mem _ m)
    rw [List.map_cons, List.sum_cons, List.length_cons]
    omega
theorem kd_len : ∀ i, (kdN.getD i "").length ≤ 20 := fun i => by
  have all : ∀ y ∈ kdN, y.length ≤ 20 := by decide +kernel
  rw [List.getD_eq_getElem?_getD]
  cases e : kdN[i]? with
  | none => exact (by decide +kernel : (Str.ofString "").length ≤ 20)
  | some y => exact all y (List.mem_of_getElem? e)
theorem kinds_len (fl : List Bool) : (kindsL fl).length ≤ 26 := by
  unfold kindsL
  rw [List.length_map]
  exact Nat.le_trans (List.length_filter_le _ _) (by rw [List.length_range]; exact Nat.le_refl _)
theorem flags_eq (g : Nat → V) : [g 0, g 1, g 2, g 3] ++ [g 4, g 5, g 6, g 7] ++ [g 8, g 9, g 10, g 11] ++ [g 12, g 13, g 14, g 15] ++ [g 16, g 17, g 18] ++ [g 19, g 20, g 21, g 22] ++ [g 23, g 24, g 25] = (List.range 26).map g := rfl
theorem kinds_end {K : PySem.W.Frag} {H : Hp} {p6 p9 : Addr} {fl : List Bool} {v : V} {D : Ends} (h6 : H p6 = some (.lst ((List.range 26).map fun i => V.bl (fl.getD i false)))) (h9 : H p9 = some (.lst (kdN.map V.str))) (q : ∀ H', Ex H H' → D.rt (.str (Txt.join "" (kindsL fl))) H') :
    tRet (tM1 (fun x xs H Q => ∃ a p, ∃ ys : List Str, x = .str a ∧ xs = [.ref p] ∧ (SqL K H p (ys.map V.str) ∨ SqT K H p (ys.map V.str)) ∧ (ys.map (·.length)).sum + ys.length * a.length ≤ 16777216 ∧ Q (.str (Txt.join a ys)) H) (tC (.str "")) (tLc (iRng1 (tCons (tC (.int 26)) tNil)) (gName 3) (tB (tOp (rIxL K) (tVar 1) (tVar 3))) (tOp (rIxL K) (tVar 2) (tVar 3)) [3])) D [some v, some (.ref p6), some (.ref p9), none] H := by
  refine ⟨⟨_, rfl⟩, ?_⟩
  have hS : ∀ i : Nat, i < 26 → ((List.range 26).map fun i => V.bl (fl.getD i false))[i]? = some (.bl (fl.getD i false)) := fun i hi => by
    rw [List.getElem?_map, List.getElem?_range hi]
    rfl
  have hW : ∀ i : Nat, i < 26 → (kdN.map V.str)[i]? = some (.str (kdN.getD i "")) := fun i hi => by
    have hi2 : i < kdN.length := hi
    rw [List.getElem?_map, List.getD_eq_getElem?_getD, List.getElem?_eq_getElem hi2]
    rfl
  refine el_lcR1 (n := 26) (σ := [some v, some (.ref p6), some (.ref p9), none]) (fun i => fl.getD i false) (fun i => V.str (kdN.getD i "")) (ea_cons ev_c ea_nil) (by decide) (fun x => rfl) (fun i H1 e hi => et_B (ev_lx (ev_var rfl) (ev_var rfl) (sq_of (e p6 _ h6)) (hS i (by omega)))) (fun i H1 e hi _ => ev_lx (ev_var rfl) (ev_var rfl) (sq_of (e p9 _ h9)) (hW i (by omega))) H (Ex.refl _) _ fun pl Hl nl el hl => ?_
  refine ⟨"", pl, kindsL fl, rfl, rfl, .inl (sq_of ?_), ?_, q Hl el⟩
  · rw [hl]
    unfold kindsL given
    rw [List.map_map]
    rfl
  · have a := sum_le (l := kindsL fl) fun y m => by
      obtain ⟨i, _, rfl⟩ := List.mem_map.mp m
      exact kd_len i
    have b := kinds_len fl
    have c : (Str.ofString "").length = 0 := by decide +kernel
    rw [c]
    omega
/-- what the exceptions of class C are called -/
structure ExC (K : PySem.W.Frag) (mg : Str → Option Value) (x : Str) (C : Addr) (fl : List Bool) : Prop where
  kd : Kd K mg C fl
  xf : XfC K C
  em : PySem.W.exmOne K (.ref C) (.ref C) = some true
  nm : mg x = some (.ref C)
def tKn (K : PySem.W.Frag) (mg : Str → Option Value) (a : Addr) (cls : Value) (d : Option Addr) (i : Nat) : TE := fun σ H Q => σ[i]? = some (some (.ref a)) ∧ ∃ (D : Addr) (fl : List Bool), cls = .ref D ∧ Kd K mg D fl ∧ (∀ b, d = some b → ∃ fs, H b = some (.xd fs)) ∧ ∀ H', Ex H H' → Q (.str (Txt.join "" (kindsL fl))) H'
theorem hot_suite {X : Cx} {a : Addr} {oe : Obj} {cls : Value} {d : Option Addr} {pn : List (Addr × Obj)} (hz : L2N.Zn cls d oe) (hf : ∃ vs, oe.data = .fields vs) : HotP (X.suite a ((a, oe) :: pn)) (a, oe) := by
  obtain ⟨vs, hv⟩ := hf
  exact ⟨⟨rfl, vs, hv, hz.2.2 vs hv⟩, List.mem_cons_self⟩
theorem pe_kn {X : Cx} {a : Addr} {oe : Obj} {cls : Value} {d : Option Addr} {pn : List (Addr × Obj)} {i j k : Nat} {y : Str} {p p1 pos : Pos} (hz : L2N.Zn cls d oe) (hf : ∃ vs, oe.data = .fields vs) (dK : OwnP X.prog X.w X.K X.mg X.base "_law_kinds" ["e"] k (spKinds X.K X.mg)) (hr : Room j X.A) (hj : k ≤ j) (hg : Gl X "_law_kinds") (he : PE (X.suite a ((a, oe) :: pn)) (.Name y p1) (tVar i)) :
    PE (X.suite a ((a, oe) :: pn)) (.Call (.Name "_law_kinds" p) [.Name y p1] [] pos) (tKn X.K X.mg a cls d i) := by
  have r := pe_ownP (X := X.suite a ((a, oe) :: pn)) (p := p) (pos := pos) dK (hot_suite hz hf) (roomH_mark hr _) hj hg (pa_cons he pa_nil)
  refine ⟨fun pins s σ H Q I h => r.run pins s σ H Q I ?_⟩
  obtain ⟨h1, D, fl, e, kd, hx, q⟩ := h
  subst e
  exact ⟨_, h1, D, d, fl, rfl, kd, ⟨hz.1, hz.2.1, hf⟩, hx, q⟩
/-! by looking -/
def kdB (K : PySem.W.Frag) (D : Addr) (fl : List Bool) : Bool := (List.range 25).all fun i => match PySem.W.nsIn K mainGlobals (clN.getD i "") with
  | some (some (.ref c)) => decide (PySem.W.kitOne K (.ref D) (.ref c) = some (fl.getD i false))
  | _ => false
def exkB (K : PySem.W.Frag) (D : Addr) : Bool := (PySem.W.clsIn K D).isSome && (decide (PySem.W.findIn K (.ref D) "__getattribute__" = some (some (.builtin "BaseException.__getattribute__"))) && (decide (PySem.W.findIn K (.ref D) "__getattr__" = some none) && (decide (PySem.W.subIn K (.ref D) (.type "BaseException") = some true) &&
  (decide (PySem.W.findIn K (.ref D) "__class__" = some (some (.builtin "object.__class__"))) && (decide (PySem.W.specialIn K (.builtin "object.__class__") "__get__" = some (some (.builtin "getset_descriptor.__get__"))) && (decide (PySem.W.takesIn K (.builtin "object.__class__") = some true) && decide (PySem.W.mroIn K D (.type "object") = some true)))))))
theorem exkB_ok {K : PySem.W.Frag} {D : Addr} (h : exkB K D = true) : ExK K D := by
  obtain ⟨y1, h⟩ := Bool.and_eq_true_iff.mp h
  obtain ⟨y2, h⟩ := Bool.and_eq_true_iff.mp h
  obtain ⟨y3, h⟩ := Bool.and_eq_true_iff.mp h
  obtain ⟨y4, h⟩ := Bool.and_eq_true_iff.mp h
  obtain ⟨y5, h⟩ := Bool.and_eq_true_iff.mp h
  obtain ⟨y6, h⟩ := Bool.and_eq_true_iff.mp h
  obtain ⟨y7, y8⟩ := Bool.and_eq_true_iff.mp h
  exact ⟨y1, of_decide_eq_true y2, of_decide_eq_true y3, of_decide_eq_true y4, of_decide_eq_true y5, of_decide_eq_true y6, of_decide_eq_true y7, of_decide_eq_true y8⟩
/-- all that is to be known of a class C, when its kinds are fl -/
def excB (K : PySem.W.Frag) (C : Addr) (fl : List Bool) : Bool := kdB K C fl && (exkB K C && (xfB K C && (decide (PySem.W.kitOne K (.ref C) (.type "ValueError") = some (fl.getD 25 false)) && decide (PySem.W.exmOne K (.ref C) (.ref C) = some true))))
theorem kdB_ok {K : PySem.W.Frag} {h : Heap} {mg : Str → Option Value} {D : Addr} {fl : List Bool} (X : K.In h) (G : h.Ns mainGlobals mg) (e : kdB K D fl = true) : ∀ i x, clN[i]? = some x → ∃ c, mg x = some (.ref c) ∧ PySem.W.kitOne K (.ref D) (.ref c) = some (fl.getD i false) := by
  intro i x hx
  have hi : i < 25 := (List.getElem?_eq_some_iff.mp hx).1
  have e := List.all_eq_true.mp e i (List.mem_range.mpr hi)
  rw [show clN.getD i "" = x by rw [List.getD_eq_getElem?_getD, hx]; rfl] at e
  split at e
  · rename_i c hc
    exact ⟨c, PySem.W.mg_of X G hc, of_decide_eq_true e⟩
  · cases e
theorem excB_ok {K : PySem.W.Frag} {h : Heap} {mg : Str → Option Value} {x : Str} {C : Addr} {fl : List Bool} (X : K.In h) (G : h.Ns mainGlobals mg) (a : PySem.W.nsIn K mainGlobals x = some (some (.ref C))) (e : excB K C fl = true) : ExC K mg x C fl := by
  obtain ⟨y1, h⟩ := Bool.and_eq_true_iff.mp e
  obtain ⟨y2, h⟩ := Bool.and_eq_true_iff.mp h
  obtain ⟨y3, h⟩ := Bool.and_eq_true_iff.mp h
  obtain ⟨y4, y5⟩ := Bool.and_eq_true_iff.mp h
  exact ⟨⟨exkB_ok y2, kdB_ok X G y1, of_decide_eq_true y4⟩, xfB_ok y3, of_decide_eq_true y5, PySem.W.mg_of X G a⟩
/-- what is to be known that it may be made -/
def oexB (K : PySem.W.Frag) (C : Addr) : Bool := decide (PySem.W.findIn K (.ref C) "__setattr__" = some (some (.builtin "object.__setattr__"))) && (decide (PySem.W.subIn K (.ref C) (.type "BaseException") = some true) && (decide (PySem.W.typeIn K (.ref C) = some (.type "type")) && PySem.W.keepIn K (.ref C)))
theorem oexB_ok {K : PySem.W.Frag} {C N : Addr} {nm q : Str} {bs bm : List Value} {sn sub ab col dd k0 k1 k2 k3 k5} (xL : K.lookup C = some (excClassObj nm q C N bs bm true sn sub ab col dd k0 k1 k2 k3 k5 "ValueError.__new__")) (xR : PySem.HandSPX.refsVE bm = true) (e : oexB K C = true) : OexC K C := by
  obtain ⟨y1, h⟩ := Bool.and_eq_true_iff.mp e
  obtain ⟨y2, h⟩ := Bool.and_eq_true_iff.mp h
  obtain ⟨y3, y4⟩ := Bool.and_eq_true_iff.mp h
  exact ⟨⟨nm, q, N, bs, bm, sn, sub, ab, col, dd, k0, k1, k2, k3, k5, xL, xR⟩, of_decide_eq_true y1, of_decide_eq_true y2, of_decide_eq_true y3, y4⟩
/-- what super() asks, by looking -/
def supB (K : PySem.W.Frag) (file : Str) (C cda : Addr) : Bool := (match K.lookup cda with
    | some ⟨_, _, .fields vs, _⟩ => (match (vs[2]? : Option Value) with | some (.str f _) => file == f | _ => false)
    | _ => false) && ((PySem.W.clsIn K C).isSome && (decide (PySem.W.mroIn K C (.ref C) = some true) && (decide (PySem.W.nsIn K cStatics "thirdparty.any" = some none) && (decide (PySem.W.ks_superIn K C C "__init__" = some (some (.builtin "ValueError.__init__"))) && (decide (PySem.W.subIn K (.ref C) (.type "ValueError") = some true) && decide (PySem.W.nsIn K mainGlobals "super" = some none))))))
theorem supB_ok {P : Program} {K : PySem.W.Frag} {h : Heap} {mg : Str → Option Value} {C cda : Addr} (X : K.In h) (G : h.Ns mainGlobals mg) (top : (P.main.scope.names.lookup ("super" : Str)).isSome = false) (e : supB K P.main.file C cda = true) : SupF P K mg C cda := by
  obtain ⟨y1, h⟩ := Bool.and_eq_true_iff.mp e
  obtain ⟨y2, h⟩ := Bool.and_eq_true_iff.mp h
  obtain ⟨y3, h⟩ := Bool.and_eq_true_iff.mp h
  obtain ⟨y4, h⟩ := Bool.and_eq_true_iff.mp h
  obtain ⟨y5, h⟩ := Bool.and_eq_true_iff.mp h
  obtain ⟨y6, y7⟩ := Bool.and_eq_true_iff.mp h
  refine ⟨?_, top, PySem.W.mg_none_of X G (of_decide_eq_true y7), Option.isSome_iff_exists.mp y2, of_decide_eq_true y3, of_decide_eq_true y4, of_decide_eq_true y5, of_decide_eq_true y6⟩
  split at y1
  · rename_i c d vs sl hl
    split at y1
    · rename_i f t hv
      exact ⟨_, vs, f, t, hl, rfl, hv, y1⟩
    · cases y1
  · cases y1
end Tc
/-! data of a known depth: such data can be compared, and are like themselves -/
namespace Tc
open PySem L2 PyProof.Rows Evl
def sd : Nat → PyData → Bool
  | _, .none => true
  | _, .bool _ => true
  | _, .int _ => true
  | _, .str s => PyData.strOk s
  | n + 1, .list xs => xs.all (sd n)
  | n + 1, .tuple xs => xs.all (sd n)
  | _, _ => false
theorem sd_ok : ∀ (n : Nat) (d : PyData), sd n d = true → PyData.canLay0 d = true ∧ d.depth ≤ n ∧ PyData.eqv d d = true := by
  intro n
  induction n with
  | zero =>
    intro d h
    cases d with
    | none => exact ⟨rfl, Nat.le_refl _, rfl⟩
    | bool b => exact ⟨rfl, Nat.le_refl _, by simp [PyData.eqv]⟩
    | int i => exact ⟨rfl, Nat.le_refl _, by simp [PyData.eqv]⟩
    | str s => exact ⟨h, Nat.le_refl _, by simp [PyData.eqv]⟩
    | list xs => cases h
    | tuple xs => cases h
    | dict xs => cases h
  | succ n ih =>
    have all : ∀ xs : List PyData, xs.all (sd n) = true → PyData.canLayAll0 xs = true ∧ PyData.depthAll xs ≤ n ∧ PyData.eqvAll xs xs = true := by
      intro xs
      induction xs with
      | nil => exact fun _ => ⟨rfl, Nat.zero_le _, rfl⟩
      | cons x xs ihx =>
        intro h
        rw [List.all_cons, Bool.and_eq_true] at h
        obtain ⟨a1, a2, a3⟩ := ih x h.1
        obtain ⟨b1, b2, b3⟩ := ihx h.2
        rw [PyData.canLayAll0, PyData.depthAll, PyData.eqvAll, a1, b1, a3, b3]
        exact ⟨rfl, Nat.max_le.mpr ⟨a2, b2⟩, rfl⟩
    intro d h
    cases d with
    | none => exact ⟨rfl, Nat.zero_le _, rfl⟩
    | bool b => exact ⟨rfl, Nat.zero_le _, by simp [PyData.eqv]⟩
    | int i => exact ⟨rfl, Nat.zero_le _, by simp [PyData.eqv]⟩
    | str s => exact ⟨h, Nat.zero_le _, by simp [PyData.eqv]⟩
    | list xs =>
      obtain ⟨a1, a2, a3⟩ := all xs h
      rw [PyData.canLay0, PyData.depth, PyData.eqv]
      exact ⟨a1, by omega, a3⟩
    | tuple xs =>
      obtain ⟨a1, a2, a3⟩ := all xs h
      rw [PyData.canLay0, PyData.depth, PyData.eqv]
      exact ⟨a1, by omega, a3⟩
    | dict xs => cases h
theorem sd_sh {n : Nat} {d : PyData} (h : sd n d = true) (hn : n ≤ 64) : SeqAt.shaped d = true := by
  obtain ⟨a, b, _⟩ := sd_ok n d h
  unfold SeqAt.shaped
  rw [a, decide_eq_true (Nat.le_trans b hn)]
  rfl
theorem sd_eq {n : Nat} {d : PyData} (h : sd n d = true) : PyData.eqv d d = true := (sd_ok n d h).2.2
theorem sd_up {n m : Nat} {d : PyData} (h : sd n d = true) (hm : n ≤ m) : sd m d = true := by
  induction n generalizing m d with
  | zero =>
    cases d <;> cases m <;> first | exact h | rfl | cases h
  | succ n ih =>
    obtain ⟨m, rfl⟩ : ∃ k, m = k + 1 := ⟨m - 1, by omega⟩
    cases d with
    | list xs => exact List.all_eq_true.mpr fun x hx => ih (List.all_eq_true.mp h x hx) (by omega)
    | tuple xs => exact List.all_eq_true.mpr fun x hx => ih (List.all_eq_true.mp h x hx) (by omega)
    | dict xs => cases h
    | none => rfl
    | bool b => rfl
    | int i => rfl
    | str s => exact h
theorem sd_ints (js : List Int) : sd 1 (.list (js.map PyData.int)) = true := List.all_eq_true.mpr fun x hx => by
  obtain ⟨i, _, rfl⟩ := List.mem_map.mp hx
  rfl
theorem sd_rows (rs : List (Int × Int)) : sd 2 (rowsD rs) = true := List.all_eq_true.mpr fun x hx => by
  obtain ⟨i, _, rfl⟩ := List.mem_map.mp hx
  rfl
theorem sd_ch {ks : List Int} {c : PyData} (h : goodCh ks c = true) : sd 1 c = true := by
  unfold goodCh at h
  split at h
  · rename_i s k
    rw [Bool.and_eq_true] at h
    rw [of_decide_eq_true h.1]
    show (PyData.strOk "drop" && (true && true)) = true
    decide +kernel
  · rename_i s k z
    rw [Bool.and_eq_true] at h
    rw [of_decide_eq_true h.1]
    show (PyData.strOk "put" && (true && (true && true))) = true
    decide +kernel
  · cases h
theorem sd_en {ks : List Int} {d : PyData} (h : goodEn ks d = true) : sd 3 d = true := by
  unfold goodEn at h
  split at h
  · rename_i s cs
    rw [Bool.and_eq_true, List.all_eq_true] at h
    rw [of_decide_eq_true h.1]
    show (PyData.strOk "group" && (cs.all (sd 1) && true)) = true
    rw [show cs.all (sd 1) = true from List.all_eq_true.mpr fun c m => sd_ch (h.2 c m)]
    decide +kernel
  · rename_i s i j
    rw [Bool.and_eq_true] at h
    show (PyData.strOk s && (true && (true && true))) = true
    rw [h.2]
    rfl
  · cases h
/-- two things that turn out to be the same data are not unlike -/
theorem ne_ex {K : PySem.W.Frag} {H : Hp} {σ : L2.St} {te tb : TE} {Q : Bool → Hp → Prop} {n : Nat} (S : PyData → Prop) (h : ∀ Q' : VK, (∀ v d H', Ex H H' → Dp K H' v d → S d → Q' v H') → te σ H Q') (hb : ∀ d H1, S d → Ex H H1 → ∀ Q' : VK, (∀ v H', Ex H1 H' → Dp K H' v d → Q' v H') → tb σ H1 Q') (hs : ∀ d, S d → sd n d = true) (hn : n ≤ 64) (q : ∀ H', Ex H H' → Q false H') : tTest (tOp (rNeD K) te tb) σ H Q :=
  h _ fun v d H1 x1 d1 sd1 => hb d H1 sd1 x1 _ fun v2 H2 x2 d2 => ⟨d, d, dp_same x2 _ _ d1, d2, sd_sh (hs d sd1) hn, sd_sh (hs d sd1) hn, by
    rw [sd_eq (hs d sd1)]
    exact ⟨false, rfl, q H2 (x1.trans x2)⟩⟩
theorem ne_sd {K : PySem.W.Frag} {H : Hp} {σ : L2.St} {te tb : TE} {Q : Bool → Hp → Prop} {n : Nat} (d : PyData) (h : ∀ Q' : VK, (∀ v H', Ex H H' → Dp K H' v d → Q' v H') → te σ H Q') (hb : ∀ H1, Ex H H1 → ∀ Q' : VK, (∀ v H', Ex H1 H' → Dp K H' v d → Q' v H') → tb σ H1 Q') (hs : sd n d = true) (hn : n ≤ 64) (q : ∀ H', Ex H H' → Q false H') : tTest (tOp (rNeD K) te tb) σ H Q :=
  ne_ex (fun e => e = d) (fun Q' q' => h Q' fun v H' x y => q' v d H' x y rfl) (fun e H1 z x Q' q' => hb H1 x Q' fun v H' x y => q' v H' x (z ▸ y)) (fun e z => z ▸ hs) hn q
theorem sd_3 {n : Nat} {d e : PyData} {s : Str} (h1 : sd n d = true) (h2 : PyData.strOk s = true) (h3 : sd n e = true) : sd (n + 1) (.tuple [d, .str s, e]) = true := by
  show (sd n d && (sd n (.str s) && (sd n e && true))) = true
  rw [h1, h3, show sd n (.str s) = true by cases n <;> exact h2]
  rfl
/-- a list gone through, made as we please -/
theorem for_of {K : PySem.W.Frag} {tl : TE} {σ : L2.St} {H : Hp} {R : It → Hp → Prop} (k : ∀ Q' : VK, (∀ (a : Addr) (xs : List V) (H1 : Hp), SqL K H1 a xs → R (Itl K a) H1 → Q' (.ref a) H1) → tl σ H Q') : iList K tl σ H R := k _ fun a xs H1 hs w => ⟨a, rfl, ⟨xs, hs⟩, w⟩
theorem lst_of {ta : TA} {σ : L2.St} {H : Hp} {Q : VK} (k : ta σ H fun vs H1 => vs.length ≤ sizeLine ∧ ∀ p, H1 p = none → Q (.ref p) (upd H1 p (.lst vs))) : tLst ta σ H Q := k
theorem cons_of {te : TE} {ta : TA} {σ : L2.St} {H : Hp} {Q : List V → Hp → Prop} (k : te σ H fun v H1 => ta σ H1 fun vs H2 => Q (v :: vs) H2) : tCons te ta σ H Q := k
theorem sd_log {ks : List Int} {ds : List PyData} (h : ∀ d ∈ ds, goodEn ks d = true) : sd 4 (.list ds) = true := List.all_eq_true.mpr fun d m => sd_en (h d m)
end Tc
/-! len(x) of an object of the program's own, by its __len__ -/
namespace Tc
open PySem PySem.Spec PyProof.Rows L2
def rLenO (C : Addr) (sp : Sp) : List V → Hp → VK → Prop := fun vs H Q => ∃ (a dx : Addr) (fs : List (Str × V)), vs = [V.ref a] ∧ H a = some (.ins C dx fs) ∧ sp [.ref a] H (fun v H' => ∃ m : Nat, m ≤ 100000 ∧ v = .int (m : Int) ∧ Q (.int (m : Int)) H') E0
theorem cr_lenO {X : Cx} {C f : Addr} {fd : FuncData} {n : Nat} {sp : Sp} (hr : Room (n + 1) X.A) (hl : Meth X.K C "__len__" f) (F : FnOk X.prog X.w X.K X.mg X.base CX0 n f fd ["self"] sp) (hb : Binds X.K fd ["self"] []) : CallR X (.builtin "len") (rLenO C sp) := by
  intro pins s σ H vs us Q I r ⟨a, dx, fs, e0, ha, hsp⟩
  subst e0
  rw [Vals.ref1 r]
  obtain ⟨_, inst, _⟩ := ins_get I.hok ha
  obtain ⟨_, inst, _⟩ := inst.look
  refine Calls.call_function_entry (kind_len) plain_len entry_len (args_len1 _) ?_
  unfold Builtin.«len»
  refine wpAny_bind (m := oneArg "len" _) (wpAny_pure (wpAny_bind (m := callSpecial? (.ref a) (Str.ofString "__len__")) ?_))
  unfold callSpecial? specialOf
  refine wpAny_bind (wpAny_bind (inst.type.here ((PySem.W.looks_findIn I.kIn hl.at_).here ?_)))
  refine wpAny_holding ?_
  refine wpAny_bind ((PySem.W.bind_fn I.kIn _ (beq_iff_eq.mp hl.fn)).here ?_)
  refine wpAny_bind ?_
  have env : Env0 X.prog X.w X.K X.mg X.base X.A.in1 X.stack s H := by
    have e := I.env0
    exact ⟨e.frames, e.mod, e.bs, e.bsz, e.funs, e.frf, e.hok, e.bare⟩
  have one : Vals [V.ref a] [Value.ref a] := .cons rfl .nil
  refine wpAny_call (codeAny_mono (F.run X.A.in1 X.stack s H ⟨[.ref a], []⟩ [.ref a] [.ref a] _ E0 hr.in1 env (by
    have := hb s [.ref a] I.kIn rfl
    simpa using this) one hsp) fun res s' hq => ?_)
  cases res with
  | error e => exact pass0 pins σ H s e s' I hq
  | ok fl =>
    cases fl with
    | next => exact hq.elim
    | brk => exact hq.elim
    | cont => exact hq.elim
    | ret u =>
      obtain ⟨v, H', I', rv, m, hm, ev, q⟩ := I.after hq
      subst ev
      obtain ⟨t, rfl⟩ := (show ∃ t, u = Value.int (m : Int) t from rv)
      refine wpAny_pure (wpAny_bind (wpAny_holding (wpAny_pure (wpAny_bind (wpAny_letGo ?_)))))
      show wpAny _ _ (if ((m : Nat) : Int) < 0 then _ else _) _ _ _
      rw [if_neg (by omega)]
      show wpAny _ _ (if ((m : Nat) : Int) ≥ 2 ^ 63 then _ else _) _ _ _
      rw [if_neg (by omega)]
      exact wpAny_bind (wpAny_mkInt (wpAny_pure ⟨_, rfl, .int (m : Int), H', I'.tok _, ⟨_, rfl⟩, q⟩))
end Tc
/-! a field as a target among others: x.f, y = .. -/
namespace Tc
open PySem PySem.Spec PyProof.Rows L2
def gFldT (K : PySem.W.Frag) (ta : TE) (f : Str) : TG := fun y σ H Q => ta σ H fun x H2 => ∃ a C dx fs, x = .ref a ∧ H2 a = some (.ins C dx fs) ∧ Cls K C ∧ NoAttr K C f ∧ fs.length < 1000 ∧ Q σ (upd H2 a (.ins C dx (putF f y fs)))
theorem pg_fldT {X : Cx} {o : Expr} {f : Str} {ta : TE} {pos : Pos} (ha : PE X o ta) : PG X (.Attribute o f pos) (gFldT X.K ta f) := by
  refine ⟨fun pins s σ H v u Q I r h => ?_⟩; rw [assign_Attribute]
  refine wpAny_bind (wpAny_holding (thn (ha.run pins s σ H _ I h) fun ov s1 ⟨x, H1, I1, rx, a, C, dx, fs, ex, ea, c, n, l, q⟩ => ?_))
  subst ex; obtain rfl : ov = Value.ref a := rx
  refine wpAny_bind (wpAny_standAt (wpAny_bind (wpAny_holding (setattr_ok I1 ea c n l r fun s3 I3 => ?_))))
  exact wpAny_release ⟨σ, _, I3, q⟩
end Tc
/-! d.update(d2) -/
namespace Tc
open PySem PySem.Spec PyProof.Rows L2
def rDUpd : V → List V → Hp → VK → Prop := fun x vs H Q => ∃ (a b : Addr) (kvs more : List (Key × V)), x = .ref a ∧ vs = [.ref b] ∧ a ≠ b ∧ H a = some (.dK kvs) ∧ H b = some (.dK more) ∧ kvs.length + more.length ≤ 100000 ∧ Q .non (upd H a (.dK (mergeK kvs more)))
theorem mt_dupd {X : Cx} : MtR X "dict.update" rDUpd := by
  intro pins s σ H x vs v us Q I rx rv ⟨a, b, kvs, more, ex, ev, ab, ha, hb, few, q⟩
  subst ex
  subst ev; obtain rfl : v = Value.ref a := rx
  rw [Vals.ref1 rv]
  obtain ⟨z1, s1, vs1, rel1, dd1⟩ := dk_of I.hok ha
  obtain ⟨z2, s2, vs2, rel2, dd2⟩ := dk_of I.hok hb
  have room : 100000 ≤ sizeLine := by decide
  refine call_meetsIn PySem.F.slot_dict_update dd1.typeIs PySem.F.entry_dict_update (PySem.F.args_dict_update_2 _ _) (meets_dict_update (mixKind X.prog X.w) a b ab s2) ⟨vs1, vs2, dd1, dd2, by rw [← rel1.length, ← rel2.length]; omega, fun h' dd' _ hs => ?_⟩
  have he : ∃ o, h'.get? a = some o := let ⟨o, _, _, ho, _⟩ := dd'; ⟨o, ho⟩
  have hl : (mergeK kvs more).length ≤ sizeLine := Nat.le_trans (length_mergeK more kvs) (by omega)
  exact ⟨.non, _, d_write (t' := s.toks) I (by rw [ha]; exact True.intro) hs he (dk_new hl s1 (KV.merge rel2 rel1) dd'), rfl, q⟩
end Tc
/-! a tuple that is written, known to have no dict of its own -/
namespace Tc
open PySem PySem.Spec PyProof.Rows L2
def tTupF (t : TA) : TE := fun σ H Q => t σ H fun xs H1 => xs.length ≤ sizeLine ∧ ∀ (p : Addr) (o : Obj), H1 p = none → o.dict = none → Q (.ref p) (upd H1 p (.frz o (.tup xs)))
theorem pe_tupF {X : Cx} {es : List Expr} {t : TA} {pos : Pos} {x1} (h : PA X es t) : PE X (.Tuple es x1 pos) (tTupF t) := ⟨fun pins s σ H Q I want => by
  refine wpAny_Tuple_spliced (thn (h.run pos pins s σ H _ I want) fun us s1 ⟨xs, H1, I1, r, size, go⟩ => ⟨by rw [← r.length]; exact size, ?_⟩)
  have new := I1.hok.fresh (Nat.le_refl s1.heap.objs.size)
  refine ⟨.ref s1.heap.objs.size, _, I1.laid (a := s1.heap.objs.size) (t' := s1.toks) (fun b u e => Heap.get?_push_of_some _ e) (Nat.le_refl _) ?_, rfl, go _ { cls := .type "tuple", data := .seq us.toArray } new rfl⟩
  exact (show ObjOk X.prog X.w _ _ _ (.frz _ (.tup xs)) from ⟨Heap.get?_push_size _ rfl, size, us, r, IsTup.new _ _⟩)⟩
end Tc
/-! defs with names behind a star that may let an exception out; a part of a tuple that has no dict -/
namespace Tc
open PySem PySem.Spec PyProof.Rows L2
def tCallXN (n m : Nat) (sp : Sp) (E : L2.St → XK) (t tk : TA) : TE := fun σ H Q => t σ H fun vs H1 => tk σ H1 fun zs H2 => vs.length = n ∧ zs.length = m ∧ sp (vs ++ zs) H2 Q (E σ)
/-- called by a name behind the star, or without: then it has its default -/
def OwnXN (P : Program) (w : World) (K : PySem.W.Frag) (mg : Str → Option Value) (base : Heap) (x : Str) (ps : List Str) (n : Nat) (ns : List Str) (dvs : List V) (k : Nat) (sp : Sp) : Prop :=
  ∃ (f : Addr) (fd : FuncData) (ds : List Value), FnOk P w K mg base (L2N.CX P w) k f fd ps sp ∧ mg x = some (.ref f) ∧ PySem.W.keepIn K (.ref f) = true ∧ KBn K fd ps n ns (· ++ ·) (· ++ ·) ∧ Vals dvs ds ∧ Binds K fd ps ds
section
variable {X : Cx} {W : WX} {x : Str} {ps ns : List Str} {dvs : List V} {n k j : Nat} {sp : Sp} {e : Expr} {es : List Expr} {kws : List Keyword} {t tk : TA} {p pos : Pos}
theorem pe_ownXN (d : OwnXN X.prog X.w X.K X.mg X.base x ps n ns dvs k sp) (take : L2N.Takes X W) (hr : Room j X.A) (hj : k ≤ j) (hg : Gl X x) (ha : PA X (e :: es) t) (hkw : PK X kws tk)
    (hall : (backToKw pos (keywordEach kws X.env)).all (·.1.isSome) = true := by rfl)
    (hks : (backToKw pos (keywordEach kws X.env)).filterMap (·.1) = ns := by rfl) (hdb : (x == ("__debug__" : Str)) = false := by decide)
    (he : starEach (e :: es) X.env = (false, eval e X.env) :: starEach es X.env := by rfl)
    (hpl : ((backTo pos (starEach (e :: es) X.env)).any (·.1) || (backToKw pos (keywordEach kws X.env)).any (·.1.isNone)) = false := by rfl) :
    PE X (.Call (.Name x p) (e :: es) kws pos) (tCallXN n ns.length sp (WE W) t tk) := by
  obtain ⟨f, fd, ds, F, hm, hk, hb, _, _⟩ := d
  refine ⟨fun pins s σ H Q I want => wpAny_Call_Name_kw (ld_glob I hg hm (PySem.W.callWith_KW (h₀ := X.base) I.mod.kin hk hall (thn (ha.run pos pins s σ H _ I want) fun us s1 z1 => ?_) hpl he) hdb)⟩
  obtain ⟨vs, H1, I1, r1, go⟩ := z1
  refine thn (hkw.run pos pins s1 σ H1 _ I1 go) fun ws s2 z2 => ?_
  obtain ⟨zs, H2, I2, r2, l1, l2, fin⟩ := z2
  rw [hks]
  refine ⟨I2.kIn, wpAny_call (codeAny_mono (F.run X.A X.stack s2 H2 ⟨us, ns.zip ws⟩ (us ++ ws) (vs ++ zs) Q (WE W σ) (hr.mono hj) I2.env0 (hb.to s2 us ws I2.kIn (r1.length ▸ l1) (r2.length ▸ l2)) (hb.rel r1 r2) fin) fun res s3 z3 => ?_)⟩
  match res, z3 with
  | .error u, z3 => exact L2N.passAt take σ pins H2 s2 u s3 I2 z3
  | .ok (.ret u), z3 => exact I2.after z3
theorem pe_ownXD (d : OwnXN X.prog X.w X.K X.mg X.base x ps n ns dvs k sp) (take : L2N.Takes X W) (hr : Room j X.A) (hj : k ≤ j) (hg : Gl X x) (ha : PA X (e :: es) t)
    (hdb : (x == ("__debug__" : Str)) = false := by decide)
    (he : starEach (e :: es) X.env = (false, eval e X.env) :: starEach es X.env := by rfl) (hpl : (backTo pos (starEach es X.env)).any (·.1) = false := by rfl) :
    PE X (.Call (.Name x p) (e :: es) [] pos) (tCallSD sp dvs (WE W) t) := by
  obtain ⟨f, fd, ds, F, hm, hk, _, hd, hb⟩ := d
  exact pe_callSD F (hr.mono hj) hg hm hk hb hd (fun σ => L2N.passAt take σ) ha hdb he hpl
/-- t[lo:hi], the whole of it t itself, else a tuple without a dict -/
def rSlF (K : PySem.W.Frag) : V → Option Int → Option Int → Hp → VK → Prop := fun x lo hi H Q => ∃ (a : Addr) (xs : List V), x = .ref a ∧ SqT K H a xs ∧
  ((HT.sIx xs.length 0 lo = 0 ∧ HT.sIx xs.length xs.length hi = xs.length) → Q (.ref a) H) ∧ (¬ (HT.sIx xs.length 0 lo = 0 ∧ HT.sIx xs.length xs.length hi = xs.length) → ∀ (p : Addr) (o : Obj), H p = none → o.dict = none → Q (.ref p) (upd H p (.frz o (.tup (cutV xs lo hi)))))
theorem sl_tupF : SlR X (rSlF X.K) := fun pins s σ H x v vl vu lo hi sl Q I rx hs pl pu ⟨a, xs, ex, hx, q1, q2⟩ => by
  by_cases hw : HT.sIx xs.length 0 lo = 0 ∧ HT.sIx xs.length xs.length hi = xs.length
  · exact sl_tupA pins s σ H x v vl vu lo hi sl Q I rx hs pl pu ⟨a, xs, ex, hx, q1, fun no => absurd hw no⟩
  · subst ex
    obtain rfl : v = Value.ref a := rx
    obtain ⟨us, rv, isT, size⟩ := I.tuple hx
    have same : us.toArray.size = xs.length := by
      rw [List.size_toArray]
      exact rv.length.symm
    refine ⟨"tuple", _, PyProof.Rows.slot_tuple_getitem.lookup, isT.typeIs, HT.getItem_tuple_cut isT hs pl pu (same ▸ hw) ?_ (same ▸ size)⟩
    have new := I.hok.fresh (Nat.le_refl s.heap.objs.size)
    rw [same]
    refine ⟨.ref s.heap.objs.size, _, I.laid (a := s.heap.objs.size) (t' := s.toks) (fun b u z => Heap.get?_push_of_some _ z) (Nat.le_refl _) ?_, rfl, q2 hw _ { cls := .type "tuple", data := .seq ((us.drop (HT.sIx xs.length 0 lo)).take (HT.sIx xs.length xs.length hi - HT.sIx xs.length 0 lo)).toArray } new rfl⟩
    exact (show ObjOk X.prog X.w _ _ _ (.frz _ (.tup (cutV xs lo hi))) from ⟨Heap.get?_push_size _ rfl, Nat.le_trans (cutV_length xs lo hi) size, _, (rv.drop (HT.sIx xs.length 0 lo)).take (HT.sIx xs.length xs.length hi - HT.sIx xs.length 0 lo), IsTup.new _ _⟩)
end
end Tc
/-! methods that may let an exception out; a caught exception's fields, its kind among several, in a def that an except suite calls -/
namespace Tc
open PySem PySem.Spec PyProof.Rows L2 L2H
/-- a method by its name, of the instances of C -/
def MethX (P : Program) (w : World) (K : PySem.W.Frag) (mg : Str → Option Value) (base : Heap) (C : Addr) (m : Str) (ps : List Str) (k : Nat) (sp : Sp) : Prop :=
  ∃ (f : Addr) (fd : FuncData), FnOk P w K mg base (L2N.CX P w) k f fd ps sp ∧ Binds K fd ps [] ∧ Meth K C m f
def tMethX (C : Addr) (m : Str) (sp : Sp) (E : L2.St → XK) (ta : TE) (t : TA) : TE := fun σ H Q => ta σ H fun x H1 => ∃ a dx fs, x = .ref a ∧ H1 a = some (.ins C dx fs) ∧ fs.lookup m = none ∧ t σ H1 fun vs H2 => sp (x :: vs) H2 Q (E σ)
section
variable {X : Cx} {C : Addr} {m : Str} {ps : List Str} {k j : Nat} {sp : Sp} {W : WX} {o e : Expr} {es : List Expr} {ta : TE} {t : TA} {pos apos : Pos}
theorem pe_methX {pl : Sem Bool} (d : MethX X.prog X.w X.K X.mg X.base C m ps k sp) (take : L2N.Takes X W) (hr : Room j X.A) (hj : k ≤ j) (c : Cls X.K C) (he : PE X o ta) (ha : PA X (e :: es) t)
    (hst : starEach (e :: es) X.env = (false, eval e X.env) :: starEach es X.env := by rfl)
    (hpl : (backTo pos (starEach es X.env)).any (·.1) = false := by rfl)
    (ht : eval (.Call (.Attribute o m apos) (e :: es) [] pos) X.env = (do
      let v0 ← eval o X.env
      standAt apos.atName
      let (g, g1) ← holding [v0] (getMethod v0 m pl)
      callWith pos g g1 (backTo pos (starEach (e :: es) X.env)) (backToKw pos (keywordEach [] X.env))) := by rfl) :
    PE X (.Call (.Attribute o m apos) (e :: es) [] pos) (tMethX C m sp (WE W) ta t) := by
  obtain ⟨f, fd, F, hb, hm⟩ := d
  refine ⟨fun pins s σ H Q I want => PySem.W.methodCall_KW (pl := pl) (thn (he.run pins s σ H _ I want) fun u s1 z1 => ?_) ht⟩
  obtain ⟨x, H1, I1, rx, a, dx, fs, rfl, ea, nl, go⟩ := z1
  obtain rfl : u = Value.ref a := rx
  refine getmeth_ok I1 ea c hm nl (PySem.W.callWith_K (first := [.ref a]) (h₀ := X.base) I.mod.kin hm.kp (thn (ha.run pos pins s1 σ H1 _ I1 go) fun us s2 z2 => ?_) hst hpl)
  obtain ⟨vs, H2, I2, r, fin⟩ := z2
  have rr : Vals (.ref a :: vs) (.ref a :: us) := .cons rfl r
  have b := hb s2 (.ref a :: us) I2.kIn (by
    rw [List.append_nil, ← rr.length]
    exact F.len _ _ _ _ fin)
  rw [List.append_nil] at b
  refine ⟨I2.kIn, wpAny_call (codeAny_mono (F.run X.A X.stack s2 H2 ⟨.ref a :: us, []⟩ (.ref a :: us) (.ref a :: vs) Q (WE W σ) (hr.mono hj) I2.env0 b rr fin) fun res s3 z3 => ?_)⟩
  match res, z3 with
  | .error u, z3 => exact L2N.passAt take σ pins H2 s2 u s3 I2 z3
  | .ok (.ret u), z3 => exact I2.after z3
end
section
variable {X : Cx} {D : Addr} {d : Option Addr} {p : Addr × Obj}
/-- e.n of the pinned exception -/
def tXp (p : Addr × Obj) (d : Option Addr) (n : Str) (te : TE) : TE := fun σ H Q => te σ H fun x H1 => x = .ref p.1 ∧ ∃ (b : Addr) (fs : List (Str × V)) (v : V), d = some b ∧ H1 b = some (.xd fs) ∧ fs.lookup n = some v ∧ Q v H1
theorem pe_xp {e : Expr} {te : TE} {pos : Pos} {n : Str} (T : XfC X.K D) (hno : PySem.W.findIn X.K (.ref D) n = some none) (hp : p ∈ X.pn) (hx : IsEx D d p) (he : PE X e te)
    (hb : attributeBase e n X.env (eval e X.env) = eval e X.env := by rfl) : PE X (.Attribute e n pos) (tXp p d n te) := by
  refine ⟨fun pins s σ H Q I want => attr_of hb (thn (he.run pins s σ H _ I want) fun u s1 z => ?_)⟩
  obtain ⟨x, H1, I1, rx, rfl, b, fs, v, eb, hb1, hl, go⟩ := z
  obtain rfl : u = Value.ref p.1 := rx
  have here := (I1.pin p (List.mem_append_left _ hp)).1
  obtain ⟨ws, hw⟩ := hx.fs
  obtain ⟨mA, hns, rel⟩ := (show ObjOk X.prog X.w H1 s1.heap b (.xd fs) from I1.hok b _ hb1)
  obtain ⟨ob, hob, look⟩ := lookIn_ns hns
  obtain ⟨uv, hu, ru⟩ := RelO.some_of (v := v) (o := mA n) (hl ▸ rel n)
  have nc : PySem.W.notCls p.2 = true := by
    unfold PySem.W.notCls
    rw [hw]
  have J : PySem.W.InstAt s1.heap p.1 p.2 D (some ob) := ⟨here, hx.cl, nc, by
    rw [hx.di, eb]
    exact hob⟩
  exact HandSPX.exc_get I1.kIn J T.ga T.gg T.exC (PySem.W.findObj_own T.hdC hno rfl (by rw [look, hu])) (handed_of ru) ⟨v, H1, I1.tok _, ru, go⟩
/-- isinstance(e, (A, ..)) of the pinned one -/
def rIsT (K : PySem.W.Frag) (D : Addr) (d : Option Addr) (p : Addr × Obj) : List V → Hp → VK → Prop := fun xs H Q => ∃ (t : Addr) (cs : List Addr) (b : Bool), xs = [.ref p.1, .ref t] ∧ SqT K H t (cs.map V.ref) ∧ (∀ a, d = some a → ∃ fs, H a = some (.xd fs)) ∧ PySem.W.kitAny K (.ref D) (cs.map Value.ref) = some b ∧ Q (.bl b) H
theorem call_isT (C : ExK X.K D) (hp : p ∈ X.pn) (hx : IsEx D d p) : CallR X (.builtin "isinstance") (rIsT X.K D d p) := by
  intro pins s σ H xs us Q I r h
  obtain ⟨t, cs, b, rfl, ht, hd, e, q⟩ := h
  match us, r with
  | [_, u], .cons r1 (.cons r2 .nil) =>
    cases r1
    obtain rfl : u = Value.ref t := r2
    obtain ⟨its, rv, ⟨⟨c0, dd, dat, sl⟩, ho, hc, n, hdat⟩, _⟩ := I.tuple ht
    have ei := refs_at rv
    subst ei
    dsimp only at hc hdat
    subst hc
    subst hdat
    have y := (I.pin p (List.mem_append_left _ hp)).1
    obtain ⟨vs, hv⟩ := hx.fs
    have nc : PySem.W.notCls p.2 = true := by
      unfold PySem.W.notCls
      rw [hv]
    have J : ∃ od, PySem.W.InstAt s.heap p.1 p.2 D od := by
      cases d with
      | none => exact ⟨none, y, hx.cl, nc, by
          rw [hx.di]
          trivial⟩
      | some a =>
        obtain ⟨fs, hd⟩ := hd a rfl
        obtain ⟨mA, hns, _⟩ := (show ObjOk X.prog X.w H s.heap a (.xd fs) from I.hok a _ hd)
        obtain ⟨od, ho, _⟩ := lookIn_ns hns
        exact ⟨some od, y, hx.cl, nc, by
          rw [hx.di]
          exact ho⟩
    obtain ⟨od, J⟩ := J
    exact PySem.W.kia_tup (PySem.W.kitx_exc C.cl C.ga C.gt C.sb C.ca C.cg C.tc C.mo) I.kIn J ho e (fun z => nomatch z) fun tk => ⟨.bl b, H, I.kept (t' := tk) fun _ _ z => z, rfl, q⟩
end
end Tc
/-! an exception of the text without an __init__ of its own; an own class whose __init__ may let an exception out -/
namespace Tc
open PySem PySem.Spec PyProof.Rows L2 L2H
/-- an exception under its name, made of a text -/
def OwnE0 (K : PySem.W.Frag) (mg : Str → Option Value) (x : Str) (C : Addr) (bm : List Value) : Prop :=
  PySem.W.excIn K C bm "ValueError.__new__" = true ∧ mg x = some (.ref C) ∧ PySem.W.keepIn K (.ref C) = true ∧ PySem.W.subIn K (.ref C) (.type "BaseException") = some true ∧ PySem.W.typeIn K (.ref C) = some (.type "type")
section
variable {X : Cx} {W : WX} {x m : Str} {C : Addr} {bm : List Value} {j : Nat} {p p2 pos pos' : Pos}
theorem ps_raise0 (F : ExcBaseFacts "ValueError" "ValueError.__new__" "ValueError.__init__" bm) (d : OwnE0 X.K X.mg x C bm) (hc : X.calm = true) (tk : L2N.Takes X W) (hg : Gl X x) (hdb : (x == ("__debug__" : Str)) = false := by decide) :
    PS X (.Raise (some (.Call (.Name x p) [.Constant (.str m) j p2] [] pos)) none pos') (fun _ σ H => W (.ref C) none σ H) :=
  L2N.ps_raise hc tk (L2N.pmk_own F d.1 d.2.1 d.2.2.1 (raises_own d.2.2.2.1 d.2.2.2.2) hg hdb)
end
/-- C(..), its __init__ may raise -/
def tMakeX (C : Addr) (sp : Sp) (dvs : List V) (E : L2.St → XK) (t : TA) : TE := fun σ H Q => t σ H fun vs H1 => ∀ x dx, H1 x = none → H1 dx = none → dx ≠ x →
  sp (.ref x :: (vs ++ dvs)) (upd (upd H1 dx (.own x)) x (.ins C dx [])) (fun v H2 => v = .non ∧ Q (.ref x) H2) (E σ)
section
variable {X : Cx} {W : WX} {C f : Addr} {fd : FuncData} {ps : List Str} {k j : Nat} {sp : Sp} {dvs : List V} {ds : List Value} {x : Str} {e : Expr} {es : List Expr} {t : TA} {p pos : Pos}
theorem pe_makeX (M : Mk X.K C f) (F : FnOk X.prog X.w X.K X.mg X.base (L2N.CX X.prog X.w) k f fd ps sp) (take : L2N.Takes X W) (hr : Room j X.A) (hj : k + 1 ≤ j) (hg : Gl X x) (hm : X.mg x = some (.ref C)) (hb : Binds X.K fd ps ds) (hd : Vals dvs ds) (ha : PA X (e :: es) t)
    (hdb : (x == ("__debug__" : Str)) = false := by decide)
    (he : starEach (e :: es) X.env = (false, eval e X.env) :: starEach es X.env := by rfl) (hpl : (backTo pos (starEach es X.env)).any (·.1) = false := by rfl) :
    PE X (.Call (.Name x p) (e :: es) [] pos) (tMakeX C sp dvs (WE W) t) := by
  refine ⟨fun pins s σ H Q I want => wpAny_Call_Name_kw (ld_glob I hg hm (PySem.W.callWith_K (h₀ := X.base) I.mod.kin M.kp (thn (ha.run pos pins s σ H _ I want) fun us s1 z1 => ?_) he hpl) hdb)⟩
  obtain ⟨vs, H1, I1, r, go⟩ := z1
  have fin := go (s1.heap.objs.size + 1) s1.heap.objs.size (I1.hok.fresh (Nat.le_succ _)) (I1.hok.fresh (Nat.le_refl _)) (Nat.ne_of_lt (Nat.lt_succ_self _))
  have I2 := Inv.made (C := C) I1
  have rr : Vals (V.ref (s1.heap.objs.size + 1) :: (vs ++ dvs)) (Value.ref (s1.heap.objs.size + 1) :: (us ++ ds)) := .cons rfl (r.append hd)
  have len : (Value.ref (s1.heap.objs.size + 1) :: us ++ ds).length = ps.length := (F.len _ _ _ _ fin) ▸ rr.length.symm
  refine ⟨I1.kIn, wpAny_call (make_map (f := f) I1.kIn M.makes M.init (beq_iff_eq.mp M.fn) (codeAny_mono (F.run _ X.stack _ _ ⟨.ref (s1.heap.objs.size + 1) :: us, []⟩ (.ref (s1.heap.objs.size + 1) :: (us ++ ds)) _ _ (WE W σ) ((hr.mono hj).make C us []) (I2.env0.make C us []) (hb _ (.ref (s1.heap.objs.size + 1) :: us) I2.kIn len) rr fin) fun res s3 z3 => ?_))⟩
  match res, z3 with
  | .error u, z3 => exact L2N.passAt take σ pins _ _ u s3 I2 z3
  | .ok (.ret u), z3 =>
    obtain ⟨v, H', I3, rv, ev, q3⟩ := I2.after z3
    subst ev
    exact ⟨rv, ⟨V.ref (s1.heap.objs.size + 1), H', I3, rfl, q3⟩⟩
end
end Tc
/-! methods that may let an exception out: without a thing handed in, with names behind a star; a class made of nothing -/
namespace Tc
open PySem PySem.Spec PyProof.Rows L2 L2H
section
variable {X : Cx} {C : Addr} {m : Str} {ps ns : List Str} {n k j : Nat} {sp : Sp} {W : WX} {o e : Expr} {es : List Expr} {kws : List Keyword} {ta : TE} {t tk : TA} {pos apos : Pos}
/-- o.m() -/
theorem pe_methX0 {pl : Sem Bool} (d : MethX X.prog X.w X.K X.mg X.base C m ps k sp) (take : L2N.Takes X W) (hr : Room j X.A) (hj : k ≤ j) (c : Cls X.K C) (he : PE X o ta)
    (ht : eval (.Call (.Attribute o m apos) [] [] pos) X.env = (do
      let v0 ← eval o X.env
      standAt apos.atName
      let (g, g1) ← holding [v0] (getMethod v0 m pl)
      callWith pos g g1 (backTo pos (starEach [] X.env)) (backToKw pos (keywordEach [] X.env))) := by rfl) :
    PE X (.Call (.Attribute o m apos) [] [] pos) (tMethX C m sp (WE W) ta tNil) := by
  obtain ⟨f, fd, F, hb, hm⟩ := d
  refine ⟨fun pins s σ H Q I want => PySem.W.methodCall_KW (pl := pl) (thn (he.run pins s σ H _ I want) fun u s1 z1 => ?_) ht⟩
  obtain ⟨x, H1, I1, rx, a, dx, fs, rfl, ea, nl, fin⟩ := z1
  obtain rfl : u = Value.ref a := rx
  have fin : sp [.ref a] H1 Q (WE W σ) := fin
  have rr : Vals [V.ref a] [Value.ref a] := .cons rfl .nil
  have b := hb s1 [.ref a] I1.kIn (by
    rw [List.append_nil, ← rr.length]
    exact F.len _ _ _ _ fin)
  rw [List.append_nil] at b
  refine getmeth_ok I1 ea c hm nl (PySem.W.callWith_K0 (first := [.ref a]) I1.kIn hm.kp (wpAny_call (codeAny_mono (F.run X.A X.stack s1 H1 ⟨[.ref a], []⟩ [.ref a] [.ref a] Q (WE W σ) (hr.mono hj) I1.env0 b rr fin) fun res s3 z3 => ?_)))
  match res, z3 with
  | .error u, z3 => exact L2N.passAt take σ pins H1 s1 u s3 I1 z3
  | .ok (.ret u), z3 => exact I1.after z3
/-- a method with names behind a star, all of them said -/
def MethXN (P : Program) (w : World) (K : PySem.W.Frag) (mg : Str → Option Value) (base : Heap) (C : Addr) (m : Str) (ps : List Str) (n : Nat) (ns : List Str) (k : Nat) (sp : Sp) : Prop :=
  ∃ (f : Addr) (fd : FuncData), FnOk P w K mg base (L2N.CX P w) k f fd ps sp ∧ KBn K fd ps (n + 1) ns (· ++ ·) (· ++ ·) ∧ Meth K C m f
def tMethXN (C : Addr) (m : Str) (n l : Nat) (sp : Sp) (E : L2.St → XK) (ta : TE) (t tk : TA) : TE := fun σ H Q => ta σ H fun x H1 => ∃ a dx fs, x = .ref a ∧ H1 a = some (.ins C dx fs) ∧ fs.lookup m = none ∧ t σ H1 fun vs H2 => tk σ H2 fun zs H3 => vs.length = n ∧ zs.length = l ∧ sp (x :: (vs ++ zs)) H3 Q (E σ)
theorem pe_methXN {pl : Sem Bool} (d : MethXN X.prog X.w X.K X.mg X.base C m ps n ns k sp) (take : L2N.Takes X W) (hr : Room j X.A) (hj : k ≤ j) (c : Cls X.K C) (he : PE X o ta) (ha : PA X (e :: es) t) (hkw : PK X kws tk)
    (hall : (backToKw pos (keywordEach kws X.env)).all (·.1.isSome) = true := by rfl)
    (hks : (backToKw pos (keywordEach kws X.env)).filterMap (·.1) = ns := by rfl)
    (hst : starEach (e :: es) X.env = (false, eval e X.env) :: starEach es X.env := by rfl)
    (hpl : ((backTo pos (starEach (e :: es) X.env)).any (·.1) || (backToKw pos (keywordEach kws X.env)).any (·.1.isNone)) = false := by rfl)
    (ht : eval (.Call (.Attribute o m apos) (e :: es) kws pos) X.env = (do
      let v0 ← eval o X.env
      standAt apos.atName
      let (g, g1) ← holding [v0] (getMethod v0 m pl)
      callWith pos g g1 (backTo pos (starEach (e :: es) X.env)) (backToKw pos (keywordEach kws X.env))) := by rfl) :
    PE X (.Call (.Attribute o m apos) (e :: es) kws pos) (tMethXN C m n ns.length sp (WE W) ta t tk) := by
  obtain ⟨f, fd, F, hb, hm⟩ := d
  refine ⟨fun pins s σ H Q I want => PySem.W.methodCall_KW (pl := pl) (thn (he.run pins s σ H _ I want) fun u s1 z1 => ?_) ht⟩
  obtain ⟨x, H1, I1, rx, a, dx, fs, rfl, ea, nl, go⟩ := z1
  obtain rfl : u = Value.ref a := rx
  refine getmeth_ok I1 ea c hm nl (PySem.W.callWith_KW (first := [.ref a]) (h₀ := X.base) I.mod.kin hm.kp hall (thn (ha.run pos pins s1 σ H1 _ I1 go) fun us s2 z2 => ?_) hpl hst)
  obtain ⟨vs, H2, I2, r1, go2⟩ := z2
  refine thn (hkw.run pos pins s2 σ H2 _ I2 go2) fun ws s3 z3 => ?_
  obtain ⟨zs, H3, I3, r2, l1, l2, fin⟩ := z3
  rw [hks]
  have rr : Vals (V.ref a :: vs) (Value.ref a :: us) := .cons rfl r1
  refine ⟨I3.kIn, wpAny_call (codeAny_mono (F.run X.A X.stack s3 H3 ⟨.ref a :: us, ns.zip ws⟩ (.ref a :: us ++ ws) (.ref a :: vs ++ zs) Q (WE W σ) (hr.mono hj) I3.env0 (hb.to s3 (.ref a :: us) ws I3.kIn (rr.length ▸ (congrArg (· + 1) l1)) (r2.length ▸ l2)) (hb.rel rr r2) fin) fun res s4 z4 => ?_)⟩
  match res, z4 with
  | .error u, z4 => exact L2N.passAt take σ pins H3 s3 u s4 I3 z4
  | .ok (.ret u), z4 => exact I3.after z4
end
section
variable {X : Cx} {W : WX} {C f : Addr} {fd : FuncData} {ps : List Str} {k j : Nat} {sp : Sp} {dvs : List V} {ds : List Value} {x : Str} {p pos : Pos}
theorem pe_makeX0 (M : Mk X.K C f) (F : FnOk X.prog X.w X.K X.mg X.base (L2N.CX X.prog X.w) k f fd ps sp) (take : L2N.Takes X W) (hr : Room j X.A) (hj : k + 1 ≤ j) (hg : Gl X x) (hm : X.mg x = some (.ref C)) (hb : Binds X.K fd ps ds) (hd : Vals dvs ds)
    (hdb : (x == ("__debug__" : Str)) = false := by decide) :
    PE X (.Call (.Name x p) [] [] pos) (tMakeX C sp dvs (WE W) tNil) := by
  refine ⟨fun pins s σ H Q I want => wpAny_Call_Name_kw (ld_glob I hg hm (PySem.W.callWith_K0 I.kIn M.kp ?_) hdb)⟩
  have fin := want (s.heap.objs.size + 1) s.heap.objs.size (I.hok.fresh (Nat.le_succ _)) (I.hok.fresh (Nat.le_refl _)) (Nat.ne_of_lt (Nat.lt_succ_self _))
  have I2 := Inv.made (C := C) I
  have rr : Vals (V.ref (s.heap.objs.size + 1) :: ([] ++ dvs)) ([Value.ref (s.heap.objs.size + 1)] ++ ds) := .cons rfl hd
  have len : (Value.ref (s.heap.objs.size + 1) :: [] ++ ds).length = ps.length := (F.len _ _ _ _ fin) ▸ rr.length.symm
  refine wpAny_call (make_map (f := f) I.kIn M.makes M.init (beq_iff_eq.mp M.fn) (codeAny_mono (F.run _ X.stack _ _ ⟨[.ref (s.heap.objs.size + 1)], []⟩ ([Value.ref (s.heap.objs.size + 1)] ++ ds) _ _ (WE W σ) ((hr.mono hj).make C [] []) (I2.env0.make C [] []) (hb _ [.ref (s.heap.objs.size + 1)] I2.kIn len) rr fin) fun res s3 z3 => ?_))
  match res, z3 with
  | .error u, z3 => exact L2N.passAt take σ pins _ _ u s3 I2 z3
  | .ok (.ret u), z3 =>
    obtain ⟨v, H', I3, rv, ev, q3⟩ := I2.after z3
    subst ev
    exact ⟨rv, ⟨V.ref (s.heap.objs.size + 1), H', I3, rfl, q3⟩⟩
end
end Tc
/-! an object while its fields are laid -/
namespace Tc
open PySem L2 Evl
/-- the object at p on its way: what stood at H0 stays, what came is told in nw -/
structure Ini (C dx p : Addr) (H0 : Hp) (fs : List (Str × V)) (nw : List (Addr × HO)) (H : Hp) : Prop where
  ob : H p = some (.ins C dx fs)
  bb : ∀ a o, a ≠ p → H0 a = some o → H a = some o
  fr : ∀ a, H a = none → H0 a = none
  nws : ∀ q ∈ nw, H q.1 = some q.2 ∧ H0 q.1 = none ∧ q.1 ≠ p
  nd : (nw.map (·.1)).Nodup
section
variable {C dx p : Addr} {H0 H H' : Hp} {fs : List (Str × V)} {nw : List (Addr × HO)}
theorem Ini.start (h : H0 p = some (.ins C dx fs)) : Ini C dx p H0 fs [] H0 := ⟨h, fun _ _ _ z => z, fun _ z => z, fun q m => (by cases m), List.nodup_nil⟩
theorem Ini.ex (I : Ini C dx p H0 fs nw H) (x : Ex H H') : Ini C dx p H0 fs nw H' := ⟨x _ _ I.ob, fun a o n h => x _ _ (I.bb a o n h), fun a h => I.fr a (fresh_back x h), fun q m => ⟨x _ _ (I.nws q m).1, (I.nws q m).2⟩, I.nd⟩
theorem Ini.fld (I : Ini C dx p H0 fs nw H) (gs : List (Str × V)) : Ini C dx p H0 gs nw (upd H p (.ins C dx gs)) := by
  refine ⟨upd_same, fun a o n h => ?_, fun a h => ?_, fun q m => ?_, I.nd⟩
  · rw [upd_ne n]
    exact I.bb a o n h
  · have n : a ≠ p := fun z => by
      rw [z, upd_same] at h
      cases h
    rw [upd_ne n] at h
    exact I.fr a h
  · obtain ⟨h1, h2, h3⟩ := I.nws q m
    exact ⟨by rw [upd_ne h3]; exact h1, h2, h3⟩
theorem Ini.new {d : Addr} {o : HO} (I : Ini C dx p H0 fs nw H) (hd : H d = none) (x : Ex H H') (h : H' d = some o) : Ini C dx p H0 fs ((d, o) :: nw) H' := by
  have J := I.ex x
  refine ⟨J.ob, J.bb, J.fr, fun q m => ?_, ?_⟩
  · rcases List.mem_cons.mp m with rfl | m
    · refine ⟨h, I.fr d hd, fun z => ?_⟩
      have := I.ob
      rw [← z, hd] at this
      cases this
    · exact J.nws q m
  · rw [List.map_cons]
    refine List.nodup_cons.mpr ⟨fun m => ?_, I.nd⟩
    obtain ⟨q, mq, e⟩ := List.mem_map.mp m
    have := (I.nws q mq).1
    rw [e, hd] at this
    cases this
variable {K : PySem.W.Frag} {D : Ends} {σ : L2.St} {te : TE} {v : V} {f : Str} {i : Nat}
/-- self.f = a value -/
theorem ini_c (I : Ini C dx p H0 fs nw H) (hv : Ev te σ H v) (hi : σ[i]? = some (some (.ref p))) (c : Cls K C) (na : NoAttr K C f) (hl : fs.length < 1000) (k : ∀ H', Ini C dx p H0 (putF f v fs) nw H' → D.nx σ H') : sFld K (tVar i) te f D σ H :=
  hv H (Ex.refl H) _ fun H1 x1 => ⟨.ref p, hi, p, C, dx, fs, rfl, x1 _ _ I.ob, c, na, hl, k _ ((I.ex x1).fld _)⟩
/-- self.f = a new thing -/
theorem ini_g {o : HO} (I : Ini C dx p H0 fs nw H) (hv : ∀ Q : VK, (∀ d H1, H d = none → Ex H H1 → H1 d = some o → Q (.ref d) H1) → te σ H Q) (hi : σ[i]? = some (some (.ref p))) (c : Cls K C) (na : NoAttr K C f) (hl : fs.length < 1000) (k : ∀ d H', Ini C dx p H0 (putF f (.ref d) fs) ((d, o) :: nw) H' → D.nx σ H') : sFld K (tVar i) te f D σ H :=
  hv _ fun d H1 hd x1 h1 => ⟨.ref p, hi, p, C, dx, fs, rfl, x1 _ _ I.ob, c, na, hl, k d _ ((I.new hd x1 h1).fld _)⟩
theorem new_d {Q : VK} {σ : L2.St} {H : Hp} (q : ∀ d H1, H d = none → Ex H H1 → H1 d = some (.dK []) → Q (.ref d) H1) : tDNewK σ H Q := fun d hd => q d _ hd (Ex.new hd) upd_same
theorem new_l {Q : VK} {σ : L2.St} {H : Hp} (q : ∀ d H1, H d = none → Ex H H1 → H1 d = some (.lst []) → Q (.ref d) H1) : tLst tNil σ H Q := ⟨Nat.zero_le _, fun d hd => q d _ hd (Ex.new hd) upd_same⟩
end
theorem putF_le {f : Str} {v : V} : ∀ {fs : List (Str × V)} {n : Nat}, fs.length ≤ n → (putF f v fs).length ≤ n + 1
  | [], n, _ => by show 1 ≤ n + 1; omega
  | (g, x) :: r, n, h => by
    show (if g = f then _ else _ : List (Str × V)).length ≤ n + 1
    split
    · rw [List.length_cons] at h ⊢
      omega
    · rw [List.length_cons] at h ⊢
      cases n with
      | zero => omega
      | succ n =>
        have := putF_le (f := f) (v := v) (fs := r) (n := n) (by omega)
        omega
end Tc
/-! a house: its fields and what they hold -/
namespace Tc
open PySem L2 Evl
def hfl (dW dK : Addr) (fk lg bg : Int) (dL dR : Addr) : List (Str × V) := [("worths", .ref dW), ("kept", .ref dK), ("first_kept", .int fk), ("lives_given", .int lg), ("begun", .int bg), ("living", .ref dL), ("running", .ref dR)]
section
variable (dW dK : Addr) (fk lg bg : Int) (dL dR : Addr)
theorem hl_worths : (hfl dW dK fk lg bg dL dR).lookup ("worths" : Str) = some (.ref dW) := by simp only [hfl, List.lookup]; rfl
theorem hl_kept : (hfl dW dK fk lg bg dL dR).lookup ("kept" : Str) = some (.ref dK) := by simp only [hfl, List.lookup]; rfl
theorem hl_first_kept : (hfl dW dK fk lg bg dL dR).lookup ("first_kept" : Str) = some (.int fk) := by simp only [hfl, List.lookup]; rfl
theorem hl_lives_given : (hfl dW dK fk lg bg dL dR).lookup ("lives_given" : Str) = some (.int lg) := by simp only [hfl, List.lookup]; rfl
theorem hl_begun : (hfl dW dK fk lg bg dL dR).lookup ("begun" : Str) = some (.int bg) := by simp only [hfl, List.lookup]; rfl
theorem hl_living : (hfl dW dK fk lg bg dL dR).lookup ("living" : Str) = some (.ref dL) := by simp only [hfl, List.lookup]; rfl
theorem hl_running : (hfl dW dK fk lg bg dL dR).lookup ("running" : Str) = some (.ref dR) := by simp only [hfl, List.lookup]; rfl
theorem hp_worths (z : Addr) : putF "worths" (.ref z) (hfl dW dK fk lg bg dL dR) = hfl z dK fk lg bg dL dR := by simp only [hfl, putF]; rfl
theorem hp_kept (z : Addr) : putF "kept" (.ref z) (hfl dW dK fk lg bg dL dR) = hfl dW z fk lg bg dL dR := by simp only [hfl, putF]; rfl
theorem hp_first_kept (z : Int) : putF "first_kept" (.int z) (hfl dW dK fk lg bg dL dR) = hfl dW dK z lg bg dL dR := by simp only [hfl, putF]; rfl
theorem hp_lives_given (z : Int) : putF "lives_given" (.int z) (hfl dW dK fk lg bg dL dR) = hfl dW dK fk z bg dL dR := by simp only [hfl, putF]; rfl
theorem hp_begun (z : Int) : putF "begun" (.int z) (hfl dW dK fk lg bg dL dR) = hfl dW dK fk lg z dL dR := by simp only [hfl, putF]; rfl
theorem hp_living (z : Addr) : putF "living" (.ref z) (hfl dW dK fk lg bg dL dR) = hfl dW dK fk lg bg z dR := by simp only [hfl, putF]; rfl
theorem hp_running (z : Addr) : putF "running" (.ref z) (hfl dW dK fk lg bg dL dR) = hfl dW dK fk lg bg dL z := by simp only [hfl, putF]; rfl
theorem hfl_made : putF "running" (.ref dR) (putF "living" (.ref dL) (putF "begun" (.int bg) (putF "lives_given" (.int lg) (putF "first_kept" (.int fk) (putF "kept" (.ref dK) (putF "worths" (.ref dW) [])))))) = hfl dW dK fk lg bg dL dR := by
  simp only [hfl, putF]
  rfl
theorem hfl_no {m : Str} (h : (m == ("worths" : Str)) = false ∧ (m == ("kept" : Str)) = false ∧ (m == ("first_kept" : Str)) = false ∧ (m == ("lives_given" : Str)) = false ∧ (m == ("begun" : Str)) = false ∧ (m == ("living" : Str)) = false ∧ (m == ("running" : Str)) = false) : (hfl dW dK fk lg bg dL dR).lookup m = none := by
  obtain ⟨h1, h2, h3, h4, h5, h6, h7⟩ := h
  simp only [hfl, List.lookup, h1, h2, h3, h4, h5, h6, h7]
end
/-- a house at p -/
structure HsAt (C : Addr) (H : Hp) (p dW dK dL dR : Addr) (kvs : List (Key × V)) (kept : List V) (fk lg bg : Int) (liv run : List (Key × V)) : Prop where
  ob : ∃ dx, H p = some (.ins C dx (hfl dW dK fk lg bg dL dR))
  wo : H dW = some (.dK kvs)
  ke : H dK = some (.lst kept)
  li : H dL = some (.dK liv)
  ru : H dR = some (.dK run)
  n1 : dW ≠ dL
  n2 : dW ≠ dR
  n3 : dL ≠ dR
section
variable {C : Addr} {H H' : Hp} {p dW dK dL dR : Addr} {kvs : List (Key × V)} {kept : List V} {fk lg bg : Int} {liv run : List (Key × V)}
theorem HsAt.ex (S : HsAt C H p dW dK dL dR kvs kept fk lg bg liv run) (x : Ex H H') : HsAt C H' p dW dK dL dR kvs kept fk lg bg liv run :=
  ⟨let ⟨dx, h⟩ := S.ob; ⟨dx, x _ _ h⟩, x _ _ S.wo, x _ _ S.ke, x _ _ S.li, x _ _ S.ru, S.n1, S.n2, S.n3⟩
theorem HsAt.pne (S : HsAt C H p dW dK dL dR kvs kept fk lg bg liv run) : dW ≠ p ∧ dK ≠ p ∧ dL ≠ p ∧ dR ≠ p := by
  obtain ⟨dx, hp⟩ := S.ob
  refine ⟨fun z => ?_, fun z => ?_, fun z => ?_, fun z => ?_⟩
  · have := S.wo
    rw [z, hp] at this
    cases this
  · have := S.ke
    rw [z, hp] at this
    cases this
  · have := S.li
    rw [z, hp] at this
    cases this
  · have := S.ru
    rw [z, hp] at this
    cases this
theorem HsAt.kne (S : HsAt C H p dW dK dL dR kvs kept fk lg bg liv run) : dW ≠ dK ∧ dL ≠ dK ∧ dR ≠ dK := by
  refine ⟨fun z => ?_, fun z => ?_, fun z => ?_⟩
  · have := S.wo
    rw [z, S.ke] at this
    cases this
  · have := S.li
    rw [z, S.ke] at this
    cases this
  · have := S.ru
    rw [z, S.ke] at this
    cases this
end
/-- what is known of the class -/
structure HTx (K : PySem.W.Frag) (mg : Str → Option Value) (C : Addr) : Prop where
  cl : Cls K C
  aW : NoAttr K C "worths"
  aK : NoAttr K C "kept"
  aF : NoAttr K C "first_kept"
  aG : NoAttr K C "lives_given"
  aB : NoAttr K C "begun"
  aL : NoAttr K C "living"
  aR : NoAttr K C "running"
  mgC : mg "House" = some (.ref C)
end Tc
/-! tuples stay -/
namespace Tc
open PySem L2 Evl
def Kt (H H' : Hp) : Prop := ∀ a u, (∃ xs, u = .tup xs ∨ ∃ o, u = .frz o (.tup xs)) → H a = some u → H' a = some u
theorem Kt.ex {H H' : Hp} (x : Ex H H') : Kt H H' := fun a u _ h => x a u h
theorem Kt.trans {H H1 H2 : Hp} (x : Kt H H1) (y : Kt H1 H2) : Kt H H2 := fun a u k h => y a u k (x a u k h)
section
variable {K : PySem.W.Frag} {H H' : Hp}
theorem Kt.t {a : Addr} {xs : List V} (e : Kt H H') (h : SqT K H a xs) : SqT K H' a xs := by
  rcases h with (h | ⟨o, h⟩) | h
  · exact .inl (.inl (e a _ ⟨xs, .inl rfl⟩ h))
  · exact .inl (.inr ⟨o, e a _ ⟨xs, .inr ⟨o, rfl⟩⟩ h⟩)
  · exact .inr h
theorem Kt.dp (e : Kt H H') : ∀ (n : Nat) (d : PyData) (v : V), nl n d = true → Dp K H v d → Dp K H' v d
  | 0, d, v, g, h => by
    cases h with
    | non => exact .non
    | bl b => exact .bl b
    | int i => exact .int i
    | str x => exact .str x
    | lst => cases g
    | tup => cases g
  | n + 1, d, v, g, h => by
    cases h with
    | non => exact .non
    | bl b => exact .bl b
    | int i => exact .int i
    | str x => exact .str x
    | lst => cases g
    | tup hs r => exact .tup (e.t hs) (dps_each (fun d m v => Kt.dp e n d v (List.all_eq_true.mp g d m)) r)
theorem Kt.dps (e : Kt H H') {n : Nat} {ds : List PyData} {vs : List V} (g : ∀ d ∈ ds, nl n d = true) (h : DpAll K H vs ds) : DpAll K H' vs ds := dps_each (fun d m v => e.dp n d v (g d m)) h
theorem Kt.tp (e : Kt H H') {p : Addr} {rs : List (Int × Int)} (h : TP K H p rs) : TP K H' p rs := by
  obtain ⟨xs, ⟨o, h1, h2⟩, h3⟩ := h
  refine ⟨xs, ⟨o, e _ _ ⟨xs, .inr ⟨o, rfl⟩⟩ h1, h2⟩, e.dps (n := 1) (fun d m => ?_) h3⟩
  obtain ⟨r, _, rfl⟩ := List.mem_map.mp m
  rfl
end
theorem Kt.fr {b : Addr} {H H' : Hp} (hB : Bag H b) (f : Fr b H H') : Kt H H' := fun a u k h => f.at h fun z => by
  obtain ⟨x, y, hb, _⟩ := hB
  rw [z, hb] at h
  obtain ⟨xs, rfl | ⟨o, rfl⟩⟩ := k <;> cases h
theorem Kt.barL {e : Addr} {H H' : Hp} {bs : List V} (hb : H e = some (.lst bs)) (x : Bar e H H') : Kt H H' := fun a u k h => x a u (fun z => by
  subst z
  rw [hb] at h
  obtain ⟨xs, rfl | ⟨o, rfl⟩⟩ := k <;> cases h) h
theorem Kt.barD {e : Addr} {H H' : Hp} {kvs : List (Key × V)} (hb : H e = some (.dK kvs)) (x : Bar e H H') : Kt H H' := fun a u k h => x a u (fun z => by
  subst z
  rw [hb] at h
  obtain ⟨xs, rfl | ⟨o, rfl⟩⟩ := k <;> cases h) h
/-- all but what is no tuple -/
theorem Kt.but {H H' : Hp} (P : Addr → Prop) (h : ∀ a, P a → ∃ o, H a = some o ∧ (∀ xs, o ≠ .tup xs) ∧ ∀ o' xs, o ≠ .frz o' (.tup xs)) (e : ∀ a o, ¬ P a → H a = some o → H' a = some o) : Kt H H' := fun a u k ha => by
  refine e a u (fun z => ?_) ha
  obtain ⟨o, ho, n1, n2⟩ := h a z
  rw [ha] at ho
  obtain ⟨xs, rfl | ⟨o', rfl⟩⟩ := k
  · exact n1 xs (Option.some.inj ho).symm
  · exact n2 o' xs (Option.some.inj ho).symm
section
variable {C : Addr} {H H' : Hp} {p dW dK dL dR : Addr} {kvs : List (Key × V)} {kept : List V} {fk lg bg : Int} {liv run : List (Key × V)}
theorem HsAt.kt (S : HsAt C H p dW dK dL dR kvs kept fk lg bg liv run) (e : ∀ a o, a ≠ p → a ≠ dW → a ≠ dK → a ≠ dL → a ≠ dR → H a = some o → H' a = some o) : Kt H H' := by
  refine Kt.but (fun a => a = p ∨ a = dW ∨ a = dK ∨ a = dL ∨ a = dR) (fun a z => ?_) fun a o z h => e a o (fun y => z (.inl y)) (fun y => z (.inr (.inl y))) (fun y => z (.inr (.inr (.inl y)))) (fun y => z (.inr (.inr (.inr (.inl y))))) (fun y => z (.inr (.inr (.inr (.inr y))))) h
  obtain ⟨dx, hp⟩ := S.ob
  rcases z with rfl | rfl | rfl | rfl | rfl
  · exact ⟨_, hp, (fun xs z => by cases z), fun o xs z => by cases z⟩
  · exact ⟨_, S.wo, (fun xs z => by cases z), fun o xs z => by cases z⟩
  · exact ⟨_, S.ke, (fun xs z => by cases z), fun o xs z => by cases z⟩
  · exact ⟨_, S.li, (fun xs z => by cases z), fun o xs z => by cases z⟩
  · exact ⟨_, S.ru, (fun xs z => by cases z), fun o xs z => by cases z⟩
end
theorem ev_fl {K : PySem.W.Frag} {σ : L2.St} {H : Hp} {C p dx : Addr} {fs : List (Str × V)} {f : Str} {v : V} {i : Nat} (hp : H p = some (.ins C dx fs)) (hl : fs.lookup f = some v) (c : Cls K C) (na : NoAttr K C f) (hi : σ[i]? = some (some (.ref p))) : Ev (tFld K (tVar i) f) σ H v := fun H1 e Q q => ⟨.ref p, hi, p, C, dx, fs, v, rfl, e _ _ hp, c, na, hl, q H1 (Ex.refl H1)⟩
/-- two dicts of one table are as long -/
theorem DI.same_len {ks ks' : List Int} {a b : List (Key × V)} {f : Int → Option Int} (h : DI ks a f) (h' : DI ks' b f) : a.length = b.length := by
  obtain ⟨js, e, nd, mem, _⟩ := h.keys
  obtain ⟨js', e', nd', mem', _⟩ := h'.keys
  have l1 : a.length = js.length := by have := congrArg List.length e; rw [List.length_map, List.length_map] at this; exact this
  have l2 : b.length = js'.length := by have := congrArg List.length e'; rw [List.length_map, List.length_map] at this; exact this
  have p : js.Perm js' := (List.perm_ext_iff_of_nodup nd nd').mpr fun k => (mem k).trans (mem' k).symm
  rw [l1, l2, p.length_eq]
/-- a house's table and log: the program's own way -/
theorem nl_up : ∀ (n : Nat) (d : PyData), nl n d = true → nl (n + 1) d = true
  | 0, .none, _ => rfl
  | 0, .bool _, _ => rfl
  | 0, .int _, _ => rfl
  | 0, .str _, _ => rfl
  | 0, .list _, h => by cases h
  | 0, .tuple _, h => by cases h
  | 0, .dict _, _ => rfl
  | n + 1, .none, _ => rfl
  | n + 1, .bool _, _ => rfl
  | n + 1, .int _, _ => rfl
  | n + 1, .str _, _ => rfl
  | n + 1, .list _, h => by cases h
  | n + 1, .dict _, _ => rfl
  | n + 1, .tuple ds, h => List.all_eq_true.mpr fun d m => nl_up n d (List.all_eq_true.mp h d m)
end Tc
/-! what is collected, in its order; a drawn table's rows rise with the keys -/
namespace Tc
open PySem L2 Evl PyProof.Rows
structure ColW (b : Addr) (K : PySem.W.Frag) (W : Nat → List PyData → Prop) (H : Hp) (D : Addr) (i : Nat) (H' : Hp) : Prop where
  fr : Fr b H H'
  new : H D = none
  ne : D ≠ b
  ex : ∃ (vs : List V) (ds : List PyData), H' D = some (.lst vs) ∧ DpAll K (hid D (hid b H')) vs ds ∧ vs.length ≤ i ∧ W i ds
section
variable {b D : Addr} {K : PySem.W.Frag} {W : Nat → List PyData → Prop} {H H' H4 : Hp} {i : Nat} {y : V} {d : PyData}
theorem ColW.start (hB : Bag H b) (hD : H D = none) (w : W 0 []) : ColW b K W H D 0 (upd H D (.lst [])) := ⟨Fr.new hB hD, hD, hB.ne hD, [], [], upd_same, .nil, Nat.le_refl _, w⟩
theorem ColW.skip (c : ColW b K W H D i H') (f : Fr b H' H4) (w : ∀ ds, W i ds → W (i + 1) ds) : ColW b K W H D (i + 1) H4 := by
  obtain ⟨vs, ds, h1, h2, h3, h4⟩ := c.ex
  exact ⟨c.fr.trans f, c.new, c.ne, vs, ds, f.at h1 c.ne, dps_same (same_hid f.sm) _ _ h2, Nat.le_succ_of_le h3, w _ h4⟩
theorem ColW.push (c : ColW b K W H D i H') (f : Fr b H' H4) (hy : Dp K (hid D (hid b H4)) y d) (w : ∀ ds, W i ds → W (i + 1) (ds ++ [d])) (hi : i < 10000) : ∃ acc, H4 D = some (.lst acc) ∧ acc.length < sizeLine ∧ ColW b K W H D (i + 1) (upd H4 D (.lst (acc ++ [y]))) := by
  obtain ⟨vs, ds, h1, h2, h3, h4⟩ := c.ex
  refine ⟨vs, f.at h1 c.ne, sz_lt (by omega), Fr.mut (c.fr.trans f) c.new c.ne, c.new, c.ne, vs ++ [y], ds ++ [d], upd_same, ?_, by rw [List.length_append]; exact Nat.succ_le_succ h3, w _ h4⟩
  rw [hid_upd2 _ _ c.ne]
  exact dps_app (dps_same (same_hid f.sm) _ _ h2) (.cons hy .nil)
theorem ColW.at (c : ColW b K W H D i H') : H' D ≠ none := by
  obtain ⟨vs, ds, h1, _⟩ := c.ex
  exact fun z => by
    rw [h1] at z
    cases z
end
theorem lt_take {ks : List Int} {i : Nat} {kk x : Int} (pw : ks.Pairwise (· < ·)) (h : ks[i]? = some kk) (m : x ∈ ks.take i) : x < kk := by
  have e : ks.take (i + 1) = ks.take i ++ [kk] := by
    rw [List.take_succ, h]
    rfl
  have p := pw.sublist (List.take_sublist (i + 1) ks)
  rw [e] at p
  exact (List.pairwise_append.mp p).2.2 x m kk (List.mem_singleton_self _)
def rowsUp (ks : List Int) (i : Nat) (ds : List PyData) : Prop := ∃ rs : List (Int × Int), ds = rs.map pairD ∧ (∀ r ∈ rs, r.1 ∈ ks.take i ∧ 0 ≤ r.2 ∧ r.2 < 1000) ∧ (ks.Pairwise (· < ·) → rs.Pairwise fun a b => a.1 < b.1)
theorem rowsUp.skip {ks : List Int} {i : Nat} {ds : List PyData} (h : rowsUp ks i ds) : rowsUp ks (i + 1) ds := by
  obtain ⟨rs, e, h1, h2⟩ := h
  refine ⟨rs, e, fun r m => ⟨?_, (h1 r m).2⟩, h2⟩
  have := (h1 r m).1
  rw [List.take_succ]
  exact List.mem_append_left _ this
theorem rowsUp.push {ks : List Int} {i : Nat} {ds : List PyData} {kk w : Int} (h : rowsUp ks i ds) (hk : ks[i]? = some kk) (hw : 0 ≤ w ∧ w < 1000) : rowsUp ks (i + 1) (ds ++ [pairD (kk, w)]) := by
  obtain ⟨rs, e, h1, h2⟩ := h
  refine ⟨rs ++ [(kk, w)], by rw [e, List.map_append]; rfl, fun r m => ?_, fun pw => List.pairwise_append.mpr ⟨h2 pw, List.pairwise_singleton _ _, fun a ma c mc => ?_⟩⟩
  · rw [List.take_succ, hk]
    rcases List.mem_append.mp m with m | m
    · exact ⟨List.mem_append_left _ (h1 r m).1, (h1 r m).2⟩
    · rw [List.mem_singleton.mp m]
      exact ⟨List.mem_append_right _ (List.mem_singleton_self _), hw⟩
  · rw [List.mem_singleton.mp mc]
    exact lt_take pw hk (h1 a ma).1
end Tc
/-! draws in tests and in ranges -/
namespace Tc
open PySem L2 Evl
section
variable {b : Addr} {σ : L2.St} {H : Hp} {i : Nat} {m : Int} {E : XK} {D : Ends} {tu tw : TS}
/-- if _law_take(bag, m) == 0 -/
theorem if_draw (hB : Bag H b) (hσ : σ[i]? = some (some (.ref b))) (h0 : 0 < m) (h1 : m < 1073741824) (y : ∀ H', Fr b H H' → tu D σ H') (n : ∀ H', Fr b H H' → tw D σ H') : tIfS (tTest (tOp rEq (tCall spTake [] E (tCons (tVar i) (tCons (tC (.int m)) tNil))) (tC (.int 0)))) tu tw D σ H :=
  take_of hB (ea_cons (ev_var hσ) (ea_cons ev_c ea_nil)) h0 h1 fun r H' f _ _ => ⟨rfl, _, rfl, ite2 (fun _ => y H' f) (fun _ => n H' f)⟩
/-- for .. in range(_law_take(bag, m)) -/
theorem for_draw {j : Nat} (Pv : Nat → L2.St → Hp → Prop) (hB : Bag H b) (hσ : σ[i]? = some (some (.ref b))) (h0 : 0 < m) (h1 : m < 10000) (hp : ∀ H', Fr b H H' → Pv 0 σ H')
    (hs : ∀ (i : Nat) σ' H', (i : Int) < m → Pv i σ' H' → tu { D with nx := Pv (i + 1), ct := Pv (i + 1), bk := D.nx } (σ'.set j (some (.int (0 + (i : Int))))) H') (hd : ∀ (n : Nat) σ' H', (n : Int) ≤ m → Pv n σ' H' → D.nx σ' H') : tFor (iRng1 (tCons (tCall spTake [] E (tCons (tVar i) (tCons (tC (.int m)) tNil))) tNil)) (gName j) tu D σ H :=
  take_of hB (ea_cons (ev_var hσ) (ea_cons ev_c ea_nil)) h0 (by omega) fun r H' f r0 r1 => ⟨r, rfl, by omega, by omega, for_range (lo := 0) (n := r.toNat) Pv (hp H' f) (fun i σ' G hi p => hs i σ' G (by omega) p) (fun σ' G p => hd r.toNat σ' G (by omega) p)⟩
end
end Tc
/-! a house and its readings, as they stand and as they are told -/
namespace Tc
open PySem L2 Evl
/-- all keys -/
def allKs : List Int := (List.range 1000).map fun (i : Nat) => (i : Int)
theorem allKs_len : allKs.length = 1000 := by unfold allKs; rw [List.length_map, List.length_range]
theorem allKs_mem {k : Int} (h0 : 0 ≤ k) (h1 : k < 1000) : k ∈ allKs := List.mem_map.mpr ⟨k.toNat, List.mem_range.mpr (by omega), by omega⟩
theorem allKs_in {k : Int} (h : k ∈ allKs) : 0 ≤ k ∧ k < 1000 := by
  obtain ⟨i, m, rfl⟩ := List.mem_map.mp h
  have := List.mem_range.mp m
  omega
def opV : Option Int → V
  | some z => .int z
  | none => .non
/-- the lives, each with the place that it holds -/
def lvV (l : List (Int × Option Int)) : List (Key × V) := l.map fun r => (.inl r.1, opV r.2)
def hoD (l : List (Int × Option Int)) : List PyData := l.filterMap fun r => r.2.map fun z => pairD (r.1, z)
/-- a reading -/
structure Rdg where
  num : Int
  own : Int
  lo : Int
  hi : Int
  found : List (Int × Int)
  ended : Bool
/-- a reading that is one -/
structure RgOk (x : Rdg) : Prop where
  a : 0 ≤ x.lo
  b : x.lo < x.hi
  c : x.hi ≤ 1000
  f : ∀ r ∈ x.found, 0 ≤ r.1 ∧ r.1 < 1000
  g : x.found.Pairwise fun a b => a.1 < b.1
/-- a house -/
structure HM where
  f : Int → Option Int
  log : List PyData
  fk : Nat
  lg : Nat
  bg : Nat
  liv : List (Int × Option Int)
  run : List Rdg
def rfd (own : Int) (st fl : Addr) (en : Bool) : List (Str × V) := [("owner", .int own), ("stretch", .ref st), ("found", .ref fl), ("ended", .bl en)]
section
variable (own : Int) (st fl : Addr) (en : Bool)
theorem rl_owner : (rfd own st fl en).lookup ("owner" : Str) = some (.int own) := by simp only [rfd, List.lookup]; rfl
theorem rl_stretch : (rfd own st fl en).lookup ("stretch" : Str) = some (.ref st) := by simp only [rfd, List.lookup]; rfl
theorem rl_found : (rfd own st fl en).lookup ("found" : Str) = some (.ref fl) := by simp only [rfd, List.lookup]; rfl
theorem rl_ended : (rfd own st fl en).lookup ("ended" : Str) = some (.bl en) := by simp only [rfd, List.lookup]; rfl
theorem rp_ended (z : Bool) : putF "ended" (.bl z) (rfd own st fl en) = rfd own st fl z := by simp only [rfd, putF]; rfl
theorem rfd_made : putF "ended" (.bl en) (putF "found" (.ref fl) (putF "stretch" (.ref st) (putF "owner" (.int own) []))) = rfd own st fl en := by
  simp only [rfd, putF]
  rfl
theorem rfd_no {m : Str} (h : (m == ("owner" : Str)) = false ∧ (m == ("stretch" : Str)) = false ∧ (m == ("found" : Str)) = false ∧ (m == ("ended" : Str)) = false) : (rfd own st fl en).lookup m = none := by
  obtain ⟨h1, h2, h3, h4⟩ := h
  simp only [rfd, List.lookup, h1, h2, h3, h4]
end
/-- what is known of the class of readings -/
structure RTx (K : PySem.W.Frag) (mg : Str → Option Value) (R : Addr) : Prop where
  cl : Cls K R
  aO : NoAttr K R "owner"
  aS : NoAttr K R "stretch"
  aF : NoAttr K R "found"
  aE : NoAttr K R "ended"
  mgC : mg "Reading" = some (.ref R)
/-- a reading at r, its rows at fl -/
structure RdAt (K : PySem.W.Frag) (R : Addr) (H : Hp) (r fl : Addr) (x : Rdg) : Prop where
  ob : ∃ dx st, H r = some (.ins R dx (rfd x.own st fl x.ended)) ∧ SqT K H st [.int x.lo, .int x.hi]
  fo : ∃ vs, H fl = some (.lst vs) ∧ DpAll K H vs (x.found.map pairD)
theorem RdAt.keep {K : PySem.W.Frag} {R : Addr} {H H' : Hp} {r fl : Addr} {x : Rdg} (h : RdAt K R H r fl x) (e1 : ∀ o, H r = some o → H' r = some o) (e2 : ∀ o, H fl = some o → H' fl = some o) (kt : Kt H H') : RdAt K R H' r fl x := by
  obtain ⟨⟨dx, st, h1, h2⟩, vs, h3, h4⟩ := h
  exact ⟨⟨dx, st, e1 _ h1, kt.t h2⟩, vs, e2 _ h3, kt.dps (n := 1) (fun d m => by
    obtain ⟨r, _, rfl⟩ := List.mem_map.mp m
    rfl) h4⟩
def rnV (l : List (Rdg × Addr × Addr)) : List (Key × V) := l.map fun t => (.inl t.1.num, .ref t.2.1)
/-- what the house holds as its own -/
def fpL (p dW dK dL dR : Addr) (l : List (Rdg × Addr × Addr)) : List Addr := p :: dW :: dK :: dL :: dR :: l.flatMap fun t => [t.2.1, t.2.2]
structure HsB (K : PySem.W.Frag) (C R : Addr) (H : Hp) (p dW dK dL dR : Addr) (kvs : List (Key × V)) (kept : List V) (l : List (Rdg × Addr × Addr)) (m : HM) : Prop where
  at' : HsAt C H p dW dK dL dR kvs kept m.fk m.lg m.bg (lvV m.liv) (rnV l)
  di : DI allKs kvs m.f
  lo : DpAll K H kept m.log
  go : ∀ d ∈ m.log, goodEn allKs d = true
  lv : m.liv.Pairwise fun x y => x.1 < y.1
  lb : ∀ r ∈ m.liv, 1 ≤ r.1 ∧ r.1 ≤ m.lg
  rn : l.map (·.1) = m.run
  rp : m.run.Pairwise fun x y => x.num < y.num
  rb : ∀ x ∈ m.run, 0 ≤ x.num ∧ x.num < m.bg
  rk : ∀ x ∈ m.run, RgOk x
  rd : ∀ t ∈ l, RdAt K R H t.2.1 t.2.2 t.1
  nd : (fpL p dW dK dL dR l).Nodup
/-- a house at p that holds just X -/
def HsM (K : PySem.W.Frag) (C R : Addr) (H : Hp) (p : Addr) (m : HM) (X : Addr → Prop) : Prop := ∃ dW dK dL dR kvs kept l, HsB K C R H p dW dK dL dR kvs kept l m ∧ ∀ a, X a ↔ a ∈ fpL p dW dK dL dR l
def Off (X : Addr → Prop) (H H' : Hp) : Prop := ∀ a o, ¬ X a → H a = some o → H' a = some o
/-- no tuple -/
def NoT (H : Hp) (a : Addr) : Prop := ∃ o, H a = some o ∧ (∀ xs, o ≠ .tup xs) ∧ ∀ o' xs, o ≠ .frz o' (.tup xs)
theorem Off.kt {X : Addr → Prop} {H H' : Hp} (h : ∀ a, X a → NoT H a) (e : Off X H H') : Kt H H' := Kt.but X h e
theorem Off.ex {X : Addr → Prop} {H H' : Hp} (x : Ex H H') : Off X H H' := fun a o _ h => x a o h
theorem Off.trans {X : Addr → Prop} {H H1 H2 : Hp} (a : Off X H H1) (b : Off X H1 H2) : Off X H H2 := fun x o n h => b x o n (a x o n h)
/-- what stands behind a call: the house is m' now, all else stays -/
def HOut (K : PySem.W.Frag) (C R : Addr) (H : Hp) (p : Addr) (X : Addr → Prop) (m' : HM) (H' : Hp) : Prop := ∃ X', HsM K C R H' p m' X' ∧ Off X H H' ∧ ∀ a, X' a → X a ∨ H a = none
section
variable {K : PySem.W.Frag} {C R : Addr} {H H' : Hp} {p dW dK dL dR : Addr} {kvs : List (Key × V)} {kept : List V} {l : List (Rdg × Addr × Addr)} {m : HM} {X : Addr → Prop}
theorem fp_p : p ∈ fpL p dW dK dL dR l := List.mem_cons_self
theorem fp_W : dW ∈ fpL p dW dK dL dR l := List.mem_cons_of_mem _ List.mem_cons_self
theorem fp_K : dK ∈ fpL p dW dK dL dR l := List.mem_cons_of_mem _ (List.mem_cons_of_mem _ List.mem_cons_self)
theorem fp_L : dL ∈ fpL p dW dK dL dR l := List.mem_cons_of_mem _ (List.mem_cons_of_mem _ (List.mem_cons_of_mem _ List.mem_cons_self))
theorem fp_R : dR ∈ fpL p dW dK dL dR l := List.mem_cons_of_mem _ (List.mem_cons_of_mem _ (List.mem_cons_of_mem _ (List.mem_cons_of_mem _ List.mem_cons_self)))
theorem fp_r {t : Rdg × Addr × Addr} (h : t ∈ l) : t.2.1 ∈ fpL p dW dK dL dR l ∧ t.2.2 ∈ fpL p dW dK dL dR l := by
  have g : ∀ a ∈ [t.2.1, t.2.2], a ∈ fpL p dW dK dL dR l := fun a ha => List.mem_cons_of_mem _ (List.mem_cons_of_mem _ (List.mem_cons_of_mem _ (List.mem_cons_of_mem _ (List.mem_cons_of_mem _ (List.mem_flatMap.mpr ⟨t, h, ha⟩)))))
  exact ⟨g _ List.mem_cons_self, g _ (List.mem_cons_of_mem _ List.mem_cons_self)⟩
theorem HsB.noT (S : HsB K C R H p dW dK dL dR kvs kept l m) : ∀ a ∈ fpL p dW dK dL dR l, NoT H a := fun a ha => by
  obtain ⟨dx, hp⟩ := S.at'.ob
  unfold fpL at ha
  rcases List.mem_cons.mp ha with rfl | ha
  · exact ⟨_, hp, (fun xs z => by cases z), fun o xs z => by cases z⟩
  rcases List.mem_cons.mp ha with rfl | ha
  · exact ⟨_, S.at'.wo, (fun xs z => by cases z), fun o xs z => by cases z⟩
  rcases List.mem_cons.mp ha with rfl | ha
  · exact ⟨_, S.at'.ke, (fun xs z => by cases z), fun o xs z => by cases z⟩
  rcases List.mem_cons.mp ha with rfl | ha
  · exact ⟨_, S.at'.li, (fun xs z => by cases z), fun o xs z => by cases z⟩
  rcases List.mem_cons.mp ha with rfl | ha
  · exact ⟨_, S.at'.ru, (fun xs z => by cases z), fun o xs z => by cases z⟩
  obtain ⟨t, mt, ha⟩ := List.mem_flatMap.mp ha
  obtain ⟨⟨dx, st, h1, _⟩, vs, h3, _⟩ := S.rd t mt
  simp only [List.mem_cons, List.not_mem_nil, or_false] at ha
  rcases ha with rfl | rfl
  · exact ⟨_, h1, (fun xs z => by cases z), fun o xs z => by cases z⟩
  · exact ⟨_, h3, (fun xs z => by cases z), fun o xs z => by cases z⟩
/-- what is its own stays, and tuples: then the house does -/
theorem HsB.keep (S : HsB K C R H p dW dK dL dR kvs kept l m) (e : ∀ a o, a ∈ fpL p dW dK dL dR l → H a = some o → H' a = some o) (kt : Kt H H') : HsB K C R H' p dW dK dL dR kvs kept l m := by
  obtain ⟨dx, hp⟩ := S.at'.ob
  refine ⟨⟨⟨dx, e _ _ fp_p hp⟩, e _ _ fp_W S.at'.wo, e _ _ fp_K S.at'.ke, e _ _ fp_L S.at'.li, e _ _ fp_R S.at'.ru, S.at'.n1, S.at'.n2, S.at'.n3⟩, S.di, kt.dps (fun d m => nl_en (S.go d m)) S.lo, S.go, S.lv, S.lb, S.rn, S.rp, S.rb, S.rk, fun t mt => ?_, S.nd⟩
  exact (S.rd t mt).keep (fun o h => e _ _ (fp_r mt).1 h) (fun o h => e _ _ (fp_r mt).2 h) kt
theorem HsM.keep (S : HsM K C R H p m X) (e : ∀ a o, X a → H a = some o → H' a = some o) (kt : Kt H H') : HsM K C R H' p m X := by
  obtain ⟨dW, dK, dL, dR, kvs, kept, l, B, fx⟩ := S
  exact ⟨dW, dK, dL, dR, kvs, kept, l, B.keep (fun a o h => e a o ((fx a).mpr h)) kt, fx⟩
theorem HsM.ex (S : HsM K C R H p m X) (x : Ex H H') : HsM K C R H' p m X := S.keep (fun a o _ h => x a o h) (Kt.ex x)
theorem HsM.noT (S : HsM K C R H p m X) : ∀ a, X a → NoT H a := fun a h => by
  obtain ⟨dW, dK, dL, dR, kvs, kept, l, B, fx⟩ := S
  exact B.noT a ((fx a).mp h)
theorem HsM.fr {b : Addr} (S : HsM K C R H p m X) (hB : Bag H b) (f : Fr b H H') (n : ¬ X b) : HsM K C R H' p m X := S.keep (fun a o h z => f.at z fun y => n (y ▸ h)) (Kt.fr hB f)
theorem HOut.refl (S : HsM K C R H p m X) : HOut K C R H p X m H := ⟨X, S, fun _ _ _ h => h, fun _ h => .inl h⟩
/-- ahead of it something more was laid -/
theorem HOut.pre {H1 : Hp} (x : Ex H H1) (h : HOut K C R H1 p X m H') : HOut K C R H p X m H' := by
  obtain ⟨X', S, o, n⟩ := h
  exact ⟨X', S, (Off.ex x).trans o, fun a ha => (n a ha).imp id fun z => fresh_back x z⟩
theorem HOut.post {H1 : Hp} (h : HOut K C R H p X m H1) (x : Ex H1 H') : HOut K C R H p X m H' := by
  obtain ⟨X', S, o, n⟩ := h
  exact ⟨X', S.ex x, o.trans (Off.ex x), n⟩
end
end Tc
/-! raising, said once -/
namespace Tc
open PySem L2 L2H PyProof.Rows Evl NdefX
theorem raise_go {C : Addr} {f : Str} {Kf : Value → Option Addr → Hp → Prop} {σ : L2.St} {H : Hp} {t : TA} {i : Int} (ha : EvA t σ H [.int i]) (hb : i.natAbs.log2 < 1920) (q : ∀ d H', H d = none → Ex H H' → H' d = some (.xd [(f, .int i)]) → Kf (.ref C) (some d) H') : tMkO C (spX1 C f) [] t σ H Kf := by
  refine ha H (Ex.refl H) _ fun H1 x1 => ⟨by simp, fun a na => ⟨a, i, rfl, upd_same, hb, fun d H2 hd da h2 h3 k => ⟨rfl, d, _, h2, h3, ?_, ?_⟩⟩⟩
  · rw [upd_ne da] at hd
    exact hd
  · rw [upd_ne da] at hd
    refine q d _ (fresh_back x1 hd) (fun b o hb => ?_) upd_same
    have hb1 := x1 b o hb
    have ba := ne_of_none hb1 na
    exact (upd_ne (ne_of_none hb1 hd)).trans ((del_ne ba).trans (k b o ba ((upd_ne ba).trans hb1)))
end Tc
/-! xs += ys of lists; range by twos -/
namespace Tc
open PySem PySem.Spec PyProof.Rows L2
theorem li_seqI : seqSlot? (.type "list") (dunderI "add") = pure (some (.builtin "list.__iadd__")) := PySem.seqSlot_of PySem.F.slot_list_iadd.lookup (by decide +kernel)
theorem li_fillI : fillsInplaceSlot (.type "list") "add" (Operator.Add == .Add) = pure false := by
  unfold fillsInplaceSlot
  have e : isSeqSlot (some (.builtin "list.__iadd__")) = true := by decide +kernel
  show (typeLookup (.type "list") (dunderI "add") >>= fun z => pure (z.isSome && !isSeqSlot z)) = pure false
  rw [PySem.F.slot_list_iadd.lookup, pure_bind, e]
  rfl
theorem li_iadd {M : Model} {A : Around} {E : Value → Shared → Prop} {s : Shared} {a b : Value} {Q : Value → Shared → Prop} (ha : s.TypeIs a "list") (hb : s.TypeIs b "list") (go : wpAny M A (call (.builtin "list.__iadd__") [a, b]) Q E s) : wpAny M A (inplaceOp .Add a b) Q E s := by
  unfold inplaceOp
  refine wpAny_holding (wpAny_bind (wpAny_typeOf ha (wpAny_bind (wpAny_of_eq li_fillI ?_))))
  rw [if_neg (show ¬ false = true by decide)]
  exact wpAny_bind (wpAny_binaryOp1_none (nm := "add") ha hb noFill_list_add (wpAny_bind (wpAny_of_eq li_seqI (wpAny_bind (wpAny_rule go)))))
/-- a list made longer by another one -/
def ipCat : TIp := fun x y H Q => ∃ (l b : Addr) (xs zs : List V), x = .ref l ∧ y = .ref b ∧ H l = some (.lst xs) ∧ H b = some (.lst zs) ∧ xs.length + zs.length ≤ sizeLine ∧ Q (.ref l) (upd H l (.lst (xs ++ zs)))
theorem ip_cat {X : Cx} : PIp X .Add ipCat := by
  intro pins s σ H x y v u Q I rx ry ⟨l, b, xs, zs, ex, ey, hl, hb, few, q⟩
  subst ex
  subst ey
  obtain rfl : v = Value.ref l := rx; obtain rfl : u = Value.ref b := ry
  obtain ⟨z, its, n, r, _, e⟩ := I.lstM hl
  obtain ⟨z2, its2, n2, r2, _, e2⟩ := I.lstM hb
  have fit : its.toArray.size + its2.toArray.size ≤ sizeLine := by
    simp only [List.size_toArray]; omega
  have nol : ¬ (!its.toArray.isEmpty && Builtin.List.listTooLong (its.toArray.size + its2.toArray.size)) = true := by
    rw [notLongL fit, Bool.and_false]
    decide
  refine li_iadd ⟨_, e, rfl⟩ ⟨_, e2, rfl⟩ (call_meets PySem.F.slot_list_iadd ⟨_, e, rfl⟩ PySem.F.entry_list_iadd (PySem.F.args_list_iadd_2 _ _) (AutoSeq1.list___iadd___list_list_0 l its.toArray n b its2.toArray n2 nol (by rw [List.size_toArray]; omega) (by omega)) ⟨e, e2, ?_⟩)
  exact ⟨.ref l, _, I.lset (its' := its ++ its2) hl e (by simp) (r.append r2) (by rw [List.length_append]; omega), rfl, q⟩
theorem rg_small {m : Int} {j : Int} (e : Builtin.Range.rangeSize 0 j 2 = m) (h0 : 0 ≤ m) (h1 : m < 100000) (h2 : 0 ≤ j) (h3 : j < 1000000) : Builtin.Range.small 0 j 2 = true := by
  unfold Builtin.Range.small
  rw [e]
  simp only [Builtin.Range.rangeFitsLong, Bool.and_eq_true, Bool.or_eq_true, decide_eq_true_eq, beq_iff_eq, show ((2 : Int) > 0) = True from eq_true (by decide), if_true]
  omega
theorem rg_two {n : Nat} (h : n < 100000) : RgC 0 ((2 * n : Nat) : Int) 2 n := by
  have e : Builtin.Range.rangeSize 0 ((2 * n : Nat) : Int) 2 = (n : Int) := by
    unfold Builtin.Range.rangeSize; rw [if_pos (by decide)]
    split <;> omega
  exact ⟨by decide, by decide, rg_small e (by omega) (by omega) (by omega) (by omega), e⟩
/-- a list's comprehension over a range by steps -/
theorem lc_step {lo c : Int} {n : Nat} {g : TG} {tt : TT} {te : TE} {own : List Nat} {σ : L2.St} {H1 : Hp} {D : Addr} {Fin : Hp → Prop} (Pv : Nat → Hp → Prop) (h0 : Pv 0 (upd H1 D (.lst [])))
    (turn : ∀ j G, j < n → Pv j G → g (.int (lo + (j : Nat) * c)) (wipe σ own) G fun τ G2 => wipe τ own = wipe σ own ∧ tt τ G2 fun b G3 => if b = true then (te τ G3 fun y G4 => ∃ acc, G4 D = some (.lst acc) ∧ acc.length < sizeLine ∧ Pv (j + 1) (upd G4 D (.lst (acc ++ [y])))) else Pv (j + 1) G3) (fin : ∀ G, Pv n G → Fin G) :
    ∃ R : Nat → Nat → Hp → Prop, (∃ m, R 0 m (upd H1 D (.lst []))) ∧ ∀ j m G, R j m G → ((L2.Itc lo c n).stop j G ∧ Fin G) ∨ ((L2.Itc lo c n).go j G ∧ ∃ On : Hp → Prop, (∀ G', On G' → ∃ m', m' < m ∧ R (j + 1) m' G') ∧
      ∀ x G', (L2.Itc lo c n).yld j G x G' → g x (wipe σ own) G' fun τ G2 => wipe τ own = wipe σ own ∧ tt τ G2 fun b G3 => if b = true then (te τ G3 fun y G4 => ∃ acc, G4 D = some (.lst acc) ∧ acc.length < sizeLine ∧ On (upd G4 D (.lst (acc ++ [y])))) else On G3) := by
  refine ⟨fun j m G => j ≤ n ∧ m = n - j ∧ Pv j G, ⟨_, Nat.zero_le _, rfl, h0⟩, fun j m G ⟨hj, em, p⟩ => ?_⟩
  rcases Nat.lt_or_ge j n with lt | ge
  · refine .inr ⟨lt, Pv (j + 1), fun G' p' => ⟨n - (j + 1), by omega, by omega, rfl, p'⟩, ?_⟩
    rintro x G' ⟨rfl, rfl⟩
    exact turn j _ lt p
  · obtain rfl : j = n := by omega
    exact .inl ⟨Nat.le_refl _, fin G p⟩
end Tc
namespace K18
open PySem L2 PyProof.Rows Tc
/-! ### the text -/
def topS (i : Nat) : Stmt := PySem.Challenge.pw_tidecopy_k18_whole_the_log_tells_the_tab.main.body.getD i (.Pass ⟨0, 0, 0, 0⟩)
abbrev sNum : Stmt := topS 33
abbrev sKey : Stmt := topS 34
abbrev sWorth : Stmt := topS 35
abbrev sRow : Stmt := topS 36
abbrev sRows : Stmt := topS 37
abbrev sTable : Stmt := topS 38
theorem scNum : FnScope ["thing"] ["thing"] (defScope sNum) := ⟨rfl, rfl, rfl, by decide +kernel, rfl, by decide +kernel, by decide +kernel⟩
theorem scKey : FnScope ["thing"] ["thing"] (defScope sKey) := ⟨rfl, rfl, rfl, by decide +kernel, rfl, by decide +kernel, by decide +kernel⟩
theorem scWorth : FnScope ["thing"] ["thing"] (defScope sWorth) := ⟨rfl, rfl, rfl, by decide +kernel, rfl, by decide +kernel, by decide +kernel⟩
theorem scRow : FnScope ["thing"] ["thing"] (defScope sRow) := ⟨rfl, rfl, rfl, by decide +kernel, rfl, by decide +kernel, by decide +kernel⟩
theorem scRows : FnScope ["thing", "first", "last", "least", "row"] ["thing", "first", "last"] (defScope sRows) := ⟨rfl, rfl, rfl, by decide +kernel, rfl, by decide +kernel, by decide +kernel⟩
theorem scTable : FnScope ["thing"] ["thing"] (defScope sTable) := ⟨rfl, rfl, rfl, by decide +kernel, rfl, by decide +kernel, by decide +kernel⟩
/-- what the module's names hold -/
structure Names (mg : Str → Option Value) : Prop where
  isinstance : mg "isinstance" = none
  int : mg "int" = none
  bool : mg "bool" = none
  tuple : mg "tuple" = none
  list : mg "list" = none
  str : mg "str" = none
  len : mg "len" = none
  set : mg "set" = none
  sorted : mg "sorted" = none
  range : mg "range" = none
  abs : mg "abs" = none
  min : mg "min" = none
  max : mg "max" = none
  dict : mg "dict" = none
  all : mg "all" = none
  ve : mg "ValueError" = none
  enumerate : mg "enumerate" = none
  KEYS : ∃ t, mg "KEYS" = some (.int 1000 t)
  WORTHS : ∃ t, mg "WORTHS" = some (.int 1000 t)
  MOST_ROWS : ∃ t, mg "MOST_ROWS" = some (.int 100 t)
  MOST_CHANGES : ∃ t, mg "MOST_CHANGES" = some (.int 6 t)
/-! ### the mathematics -/
def isNum : PyData → Bool
  | .int _ => true | _ => false
theorem isNum_eq (d : PyData) : isNum d = (isInt d && !isBool d) := by cases d <;> rfl
def isKey : PyData → Bool
  | .int i => decide (0 ≤ i) && decide (i < 1000) | _ => false
def isRow : PyData → Bool
  | .tuple [k, w] => isKey k && isKey w | _ => false
def keyOf : PyData → Int
  | .tuple (.int k :: _) => k | _ => 0
def rising : Int → List PyData → Bool
  | _, [] => true
  | least, d :: r => isRow d && decide (least ≤ keyOf d) && rising (keyOf d + 1) r
def isTable : PyData → Bool
  | .tuple ds => decide (ds.length ≤ 100) && rising 0 ds | _ => false
section
open Evl
variable {P : Program} {w : World} {K : PySem.W.Frag} {mg : Str → Option Value} {base : Heap}
theorem ok_num {f : Addr} {fd : FuncData} {k : Nat} (F : Fun K "is_number" "is_number" sNum f fd) (N : Names mg) : FnOk P w K mg base CX0 (k + 1) f fd ["thing"] (spTold K isNum) := by
  refine F.ok scNum (fun vs H Q E h => ?_) (fun cdv A outer s H vs Q E hr h => ?_)
  · obtain ⟨v, d, rfl, _⟩ := h
    rfl
  · obtain ⟨v, d, rfl, hd, q⟩ := h
    refine ⟨_, pss_one (ps_ret (pe_and (pe_callB call_isi (by rfl) N.isinstance boot_isinstance (pa_cons (pv 0) (pa_cons (pe_bltn (v := .ty "int") (by rfl) N.int boot_int rfl) pa_nil)))
      (pe_one (pe_not (pe_callB call_isi (by rfl) N.isinstance boot_isinstance (pa_cons (pv 0) (pa_cons (pe_bltn (v := .ty "bool") (by rfl) N.bool boot_bool rfl) pa_nil))))))), ?_⟩
    rw [isNum_eq] at q
    exact s_ret (ev_andV (ev_int (ev_var rfl) hd) fun _ => ev_notV (ev_bool (ev_var rfl) hd)) q
theorem num_int {H : Hp} {v : V} {d : PyData} (h : Dp K H v d) (e : isNum d = true) : ∃ i, v = .int i ∧ d = .int i := by
  cases h with
  | int i => exact ⟨i, rfl, rfl⟩
  | _ => cases e
theorem key_eq (d : PyData) : (isNum d && isKey d) = isKey d := by cases d <;> rfl
theorem ok_key {f : Addr} {fd : FuncData} {k : Nat} (F : Fun K "is_key" "is_key" sKey f fd) (N : Names mg) (dN : Own P w K mg base "is_number" ["thing"] k (spTold K isNum)) : FnOk P w K mg base CX0 (k + 1) f fd ["thing"] (spTold K isKey) := by
  refine F.ok scKey (fun vs H Q E h => ?_) (fun cdv A outer s H vs Q E hr h => ?_)
  · obtain ⟨v, d, rfl, _⟩ := h
    rfl
  · obtain ⟨v, d, rfl, hd, q⟩ := h
    obtain ⟨tk, hK⟩ := N.KEYS
    refine ⟨_, pss_one (ps_ret (pe_and (pe_own dN hr (Nat.le_refl _) (by rfl) (pa_cons (pv 0) pa_nil)) (pe_one (pe_chain op_le op_lt pe_int (pv 0) (pe_glob (v := .int 1000) (by rfl) hK ⟨_, rfl⟩))))), ?_⟩
    refine s_ret (ev_is (ev_andV (b := isKey d) (ev_told (ev_var rfl) hd) fun e => ?_) (congrArg V.bl (key_eq d))) q
    obtain ⟨i, rfl, rfl⟩ := num_int hd e
    exact ev_chain (p := fun i j => decide (i ≤ j)) (p' := fun i j => decide (i < j)) ev_c (ev_var rfl) ev_c
theorem ok_worth {f : Addr} {fd : FuncData} {k : Nat} (F : Fun K "is_worth" "is_worth" sWorth f fd) (N : Names mg) (dN : Own P w K mg base "is_number" ["thing"] k (spTold K isNum)) : FnOk P w K mg base CX0 (k + 1) f fd ["thing"] (spTold K isKey) := by
  refine F.ok scWorth (fun vs H Q E h => ?_) (fun cdv A outer s H vs Q E hr h => ?_)
  · obtain ⟨v, d, rfl, _⟩ := h
    rfl
  · obtain ⟨v, d, rfl, hd, q⟩ := h
    obtain ⟨tk, hK⟩ := N.WORTHS
    refine ⟨_, pss_one (ps_ret (pe_and (pe_own dN hr (Nat.le_refl _) (by rfl) (pa_cons (pv 0) pa_nil)) (pe_one (pe_chain op_le op_lt pe_int (pv 0) (pe_glob (v := .int 1000) (by rfl) hK ⟨_, rfl⟩))))), ?_⟩
    refine s_ret (ev_is (ev_andV (b := isKey d) (ev_told (ev_var rfl) hd) fun e => ?_) (congrArg V.bl (key_eq d))) q
    obtain ⟨i, rfl, rfl⟩ := num_int hd e
    exact ev_chain (p := fun i j => decide (i ≤ j)) (p' := fun i j => decide (i < j)) ev_c (ev_var rfl) ev_c
theorem tup_dp {H : Hp} {v : V} {d : PyData} (h : Dp K H v d) (e : isTup d = true) : ∃ a xs ds, v = .ref a ∧ d = .tuple ds ∧ SqT K H a xs ∧ DpAll K H xs ds := by
  cases h with
  | tup h r => exact ⟨_, _, _, rfl, rfl, h, r⟩
  | _ => cases e
def rowB : PyData → Bool
  | .tuple ds => decide ((ds.length : Int) = 2) && (isKey (ds.getD 0 .none) && isKey (ds.getD 1 .none)) | _ => false
theorem row_eq (d : PyData) : (isTup d && rowB d) = isRow d := by
  cases d with
  | tuple ds =>
    match ds with
    | [] => rfl
    | [_] => rfl
    | [x, y] => rfl
    | x :: y :: z :: r =>
      show (decide ((((r.length + 1 + 1 + 1 : Nat)) : Int) = 2) && (isKey x && isKey y)) = false
      rw [decide_eq_false (by omega)]
      rfl
  | _ => rfl
theorem ok_row {f : Addr} {fd : FuncData} {k : Nat} (F : Fun K "is_row" "is_row" sRow f fd) (N : Names mg) (dK : Own P w K mg base "is_key" ["thing"] k (spTold K isKey)) (dW : Own P w K mg base "is_worth" ["thing"] k (spTold K isKey)) :
    FnOk P w K mg base CX0 (k + 1) f fd ["thing"] (spTold K isRow) := by
  refine F.ok scRow (fun vs H Q E h => ?_) (fun cdv A outer s H vs Q E hr h => ?_)
  · obtain ⟨v, d, rfl, _⟩ := h
    rfl
  · obtain ⟨v, d, rfl, hd, q⟩ := h
    refine ⟨_, pss_one (ps_ret (pe_and (pe_callB call_isi (by rfl) N.isinstance boot_isinstance (pa_cons (pv 0) (pa_cons (pe_bltn (v := .ty "tuple") (by rfl) N.tuple boot_tuple rfl) pa_nil)))
      (pe_and (pe_cmpR op_eq (pe_callB call_len_seq (by rfl) N.len PySem.boot_len (pa_cons (pv 0) pa_nil)) pe_int (nomark _))
      (pe_and (pe_own dK hr (Nat.le_refl _) (by rfl) (pa_cons (pe_ix ix_tup (pv 0) pe_int (fun _ _ => rfl)) pa_nil))
      (pe_one (pe_own dW hr (Nat.le_refl _) (by rfl) (pa_cons (pe_ix ix_tup (pv 0) pe_int (fun _ _ => rfl)) pa_nil))))))), ?_⟩
    refine s_ret (ev_is (ev_andV (b := rowB d) (ev_tuple (ev_var rfl) hd) fun e => ?_) (congrArg V.bl (row_eq d))) q
    obtain ⟨a, xs, ds, rfl, rfl, hT, hA⟩ := tup_dp hd e
    have hl := dps_len hA
    refine ev_andV (ev_is (ev_op (ev_lenT (ev_var rfl) hT) ev_c (rv_eq rfl)) (congrArg V.bl ?_)) fun e2 => ?_
    · rw [hl]
      exact decide_eq_decide.mpr ⟨fun z => V.int.inj z, fun z => congrArg V.int z⟩
    · have e3 : ds.length = 2 := by
        have := of_decide_eq_true e2
        omega
      obtain ⟨d0, d1, rfl⟩ := two_of e3
      cases hA with
      | cons h0 r =>
        cases r with
        | cons h1 r2 =>
          cases r2
          exact ev_andV (a := isKey d0) (b := isKey d1) (ev_told (ev_ix0 (ev_var rfl) hT) h0) fun _ => ev_told (ev_ix1 (ev_var rfl) hT) h1
end
end K18
namespace K18
open PySem L2 PyProof.Rows Tc Evl
section
variable {P : Program} {w : World} {K : PySem.W.Frag} {mg : Str → Option Value} {base : Heap}
theorem key_int {H : Hp} {v : V} {d : PyData} (h : Dp K H v d) (e : isKey d = true) : ∃ i, v = .int i ∧ d = .int i ∧ 0 ≤ i ∧ i < 1000 := by
  cases h with
  | int i =>
    have p : (decide (0 ≤ i) && decide (i < 1000)) = true := e
    rw [Bool.and_eq_true, decide_eq_true_eq, decide_eq_true_eq] at p
    exact ⟨i, rfl, rfl, p.1, p.2⟩
  | _ => cases e
theorem row_two {ds : List PyData} (e : isRow (.tuple ds) = true) : ∃ d0 d1, ds = [d0, d1] ∧ isKey d0 = true ∧ isKey d1 = true := by
  match ds, e with
  | [d0, d1], e =>
    have e' : (isKey d0 && isKey d1) = true := e
    rw [Bool.and_eq_true] at e'
    exact ⟨d0, d1, rfl, e'.1, e'.2⟩
theorem row_dp {H : Hp} {v : V} {d : PyData} (h : Dp K H v d) (e : isRow d = true) : ∃ (a : Addr) (k z : Int), v = .ref a ∧ d = .tuple [.int k, .int z] ∧ SqT K H a [.int k, .int z] ∧ 0 ≤ k ∧ k < 1000 ∧ 0 ≤ z ∧ z < 1000 := by
  cases h with
  | @tup a xs ds h r =>
    obtain ⟨d0, d1, rfl, k0, k1⟩ := row_two e
    cases r with
    | cons h0 r =>
      cases r with
      | cons h1 r2 =>
        cases r2
        obtain ⟨k, rfl, rfl, p1, p2⟩ := key_int h0 k0
        obtain ⟨z, rfl, rfl, p3, p4⟩ := key_int h1 k1
        exact ⟨a, k, z, rfl, rfl, h, p1, p2, p3, p4⟩
  | _ => cases e
theorem rising_cons (l : Int) (ds : List PyData) (i : Nat) (d : PyData) (h : ds[i]? = some d) : rising l (ds.drop i) = (isRow d && decide (l ≤ keyOf d) && rising (keyOf d + 1) (ds.drop (i + 1))) := by
  have hi := (List.getElem?_eq_some_iff.mp h)
  obtain ⟨h1, h2⟩ := hi
  rw [List.drop_eq_getElem_cons h1, h2]
  rfl
/-- rows from a least key on, less than last -/
def risB (last : Int) : Int → List PyData → Bool
  | _, [] => true
  | least, d :: r => isRow d && (decide (least ≤ keyOf d) && decide (keyOf d < last)) && risB last (keyOf d + 1) r
theorem risB_cons (last l : Int) (ds : List PyData) (i : Nat) (d : PyData) (h : ds[i]? = some d) : risB last l (ds.drop i) = (isRow d && (decide (l ≤ keyOf d) && decide (keyOf d < last)) && risB last (keyOf d + 1) (ds.drop (i + 1))) := by
  obtain ⟨h1, h2⟩ := List.getElem?_eq_some_iff.mp h
  rw [List.drop_eq_getElem_cons h1, h2]
  rfl
theorem row_key {d : PyData} (h : isRow d = true) : keyOf d < 1000 := by
  unfold isRow at h
  split at h
  · rename_i k w
    rw [Bool.and_eq_true] at h
    cases k with
    | int i =>
      have h1 := h.1
      unfold isKey at h1
      rw [Bool.and_eq_true] at h1
      exact of_decide_eq_true h1.2
    | _ => cases h.1
  · cases h
theorem risB_all : ∀ (ds : List PyData) (l : Int), risB 1000 l ds = rising l ds
  | [], _ => rfl
  | d :: ds, l => by
    show (isRow d && (decide (l ≤ keyOf d) && decide (keyOf d < 1000)) && risB 1000 (keyOf d + 1) ds) = (isRow d && decide (l ≤ keyOf d) && rising (keyOf d + 1) ds)
    rw [risB_all ds]
    cases hr : isRow d with
    | false => rfl
    | true => rw [decide_eq_true (row_key hr), Bool.and_true]
def rowsB (a b : Int) : PyData → Bool
  | .tuple ds => risB b a ds
  | _ => false
theorem table_rows (d : PyData) : isTable d = (rowsB 0 1000 d && (match d with | .tuple ds => decide (ds.length ≤ 100) | _ => false)) := by
  cases d with
  | tuple ds =>
    show (decide (ds.length ≤ 100) && rising 0 ds) = (risB 1000 0 ds && decide (ds.length ≤ 100))
    rw [risB_all, Bool.and_comm]
  | _ => rfl
def spRowsT (K : PySem.W.Frag) : Sp := fun vs H Q _ => ∃ (v : V) (d : PyData) (a b : Int), vs = [v, .int a, .int b] ∧ Dp K H v d ∧ ∀ H', Ex H H' → Q (.bl (rowsB a b d)) H'
theorem ok_rows {f : Addr} {fd : FuncData} {k : Nat} (F : Fun K "is_rows" "is_rows" sRows f fd) (N : Names mg) (dR : Own P w K mg base "is_row" ["thing"] k (spTold K isRow)) :
    FnOk P w K mg base CX0 (k + 1) f fd ["thing", "first", "last"] (spRowsT K) := by
  refine F.ok scRows (fun vs H Q E h => ?_) (fun cdv A outer s H vs Q E hr h => ?_)
  · obtain ⟨v, d, a, b, rfl, _⟩ := h
    rfl
  · obtain ⟨v, d, lo, hi, rfl, hd, q⟩ := h
    refine ⟨_, pss_cons (ps_if (pt_not (pt_val (pe_callB call_isi (by rfl) N.isinstance boot_isinstance (pa_cons (pv 0) (pa_cons (pe_bltn (v := .ty "tuple") (by rfl) N.tuple boot_tuple rfl) pa_nil))))) (pss_one (ps_ret pe_bl)) pss_nil)
      (pss_cons (ps_set (i := 3) scRows.nd rfl (.inl rfl) (pv 1))
      (pss_cons (ps_for PassesOwn.never rfl (pi_tup (pv 0)) (pg_name (i := 4) scRows.nd rfl (.inl rfl))
        (pss_cons (ps_if (PW.pt (pw_or (pt_not (pt_val (pe_own dR hr (Nat.le_refl _) (by rfl) (pa_cons (pv 4) pa_nil))))
            (pw_or1 (pt_not (pt_chain op_le op_lt (pv 3) (pe_ix ix_tup (pv 4) pe_int (fun _ _ => rfl)) (pv 2)))))) (pss_one (ps_ret pe_bl)) pss_nil)
          (pss_one (ps_set (i := 3) scRows.nd rfl (.inl rfl) (pe_op op_add (pe_ix ix_tup (pv 4) pe_int (fun _ _ => rfl)) pe_int)))))
      (pss_one (ps_ret pe_bl)))), ?_⟩
    cases hT : isTup d with
    | false =>
      have e0 : rowsB lo hi d = false := by
        cases d <;> first | rfl | cases hT
      rw [e0] at q
      exact s_seq (s_if (b := true) (et_is (et_not (et_B (ev_tuple (ev_var rfl) hd))) (by rw [hT]; rfl)) (fun _ H1 x1 => s_ret ev_c fun H2 x2 => q H2 (x1.trans x2)) fun e => by cases e)
    | true =>
      obtain ⟨a, xs, ds, rfl, rfl, hS, hA⟩ := tup_dp hd hT
      have hl := dps_len hA
      have q' : ∀ H', Ex H H' → Q (.bl (risB hi lo ds)) H' := q
      refine s_seq (s_if (b := false) (et_is (et_not (et_B (ev_tuple (ev_var rfl) hd))) (by rw [hT]; rfl)) (fun e => by cases e) fun _ H1 x1 => s_next ?_)
      refine s_seq (s_asg (ev_var rfl) fun H2 x2 => s_seq ?_)
      refine s_forT (K := K) (a := a) (xs := xs) (ev_var rfl) (ex_t (x1.trans x2) hS) (fun i σ' H' => ∃ l y, σ' = [some (.ref a), some (.int lo), some (.int hi), some (.int l), y] ∧ Ex H H' ∧ risB hi lo ds = risB hi l (ds.drop i)) (fun H3 x3 => ⟨lo, none, rfl, (x1.trans x2).trans x3, rfl⟩) (fun i σ' H' _ p => ?_) (fun i x σ' H' hx p => ?_) (fun σ' H' p => ?_)
      · obtain ⟨_, _, _, xx, _⟩ := p
        exact ex_t xx hS
      · obtain ⟨l, y, rfl, xx, er⟩ := p
        obtain ⟨dx, hdx, hD⟩ := dps_at hA hx
        have hD' := dp_same xx _ _ hD
        rw [risB_cons hi l ds i dx hdx] at er
        show tSeq _ _ _ [some (V.ref a), some (V.int lo), some (V.int hi), some (V.int l), some x] H'
        cases hR : isRow dx with
        | false =>
          rw [hR] at er
          refine s_if (et_or (et_not (et_B (ev_told (ev_var rfl) hD'))) (b := false) fun e => ?_) (fun _ H1 x1 => s_ret ev_c fun H2 x2 => ?_) (fun e => ?_)
          · rw [hR] at e
            cases e
          · rw [er] at q'
            exact q' H2 ((xx.trans x1).trans x2)
          · rw [hR] at e
            cases e
        | true =>
          obtain ⟨b, kk, z, rfl, rfl, hb, _⟩ := row_dp hD' hR
          rw [hR] at er
          have er2 : risB hi lo ds = ((decide (l ≤ kk) && decide (kk < hi)) && risB hi (kk + 1) (ds.drop (i + 1))) := er
          refine s_if (et_or (et_not (et_B (ev_told (ev_var rfl) hD'))) fun e => et_not (et_test (ev_chain (p := fun i j => decide (i ≤ j)) (p' := fun i j => decide (i < j)) (ev_var rfl) (ev_ix0 (ev_var rfl) hb) (ev_var rfl)))) (fun e H1 x1 => s_ret ev_c fun H2 x2 => ?_) (fun e H1 x1 => ?_)
          · rw [hR] at e
            have e1 : (!(decide (l ≤ kk) && decide (kk < hi))) = true := e
            have e3 : (decide (l ≤ kk) && decide (kk < hi)) = false := by
              cases hz : (decide (l ≤ kk) && decide (kk < hi)) with
              | false => rfl
              | true =>
                rw [hz] at e1
                cases e1
            rw [er2, e3] at q'
            exact q' H2 ((xx.trans x1).trans x2)
          · rw [hR] at e
            have e1 : (!(decide (l ≤ kk) && decide (kk < hi))) = false := e
            have e3 : (decide (l ≤ kk) && decide (kk < hi)) = true := by
              cases hz : (decide (l ≤ kk) && decide (kk < hi)) with
              | true => rfl
              | false =>
                rw [hz] at e1
                cases e1
            rw [e3] at er2
            refine s_next (s_asg (ev_op (ev_ix0 (ev_var rfl) (ex_t x1 hb)) ev_c rv_I0) fun H2 x2 => ?_)
            exact ⟨kk + 1, _, rfl, (xx.trans x1).trans x2, er2⟩
      · obtain ⟨l, y, rfl, xx, er⟩ := p
        rw [hl, List.drop_length] at er
        have er3 : risB hi lo ds = true := er
        rw [er3] at q'
        dsimp only
        exact s_ret ev_c fun H2 x2 => q' H2 (xx.trans x2)
theorem ev_rowsT {σ : L2.St} {H : Hp} {ta tb tc : TE} {v : V} {d : PyData} {a b : Int} {E : XK} (ha : Ev ta σ H v) (h : Dp K H v d) (hb : Ev tb σ H (.int a)) (hc : Ev tc σ H (.int b)) : Ev (tCall (spRowsT K) [] E (tCons ta (tCons tb (tCons tc tNil)))) σ H (.bl (rowsB a b d)) :=
  ev_call (ea_cons ha (ea_cons hb (ea_cons hc ea_nil))) fun H1 e Q q E => ⟨v, d, a, b, rfl, dp_same e _ _ h, fun H' e' => q H' e'⟩
theorem ok_table {f : Addr} {fd : FuncData} {k : Nat} (F : Fun K "is_table" "is_table" sTable f fd) (N : Names mg) (dR : Own P w K mg base "is_rows" ["thing", "first", "last"] k (spRowsT K)) :
    FnOk P w K mg base CX0 (k + 1) f fd ["thing"] (spTold K isTable) := by
  refine F.ok scTable (fun vs H Q E h => ?_) (fun cdv A outer s H vs Q E hr h => ?_)
  · obtain ⟨v, d, rfl, _⟩ := h
    rfl
  · obtain ⟨v, d, rfl, hd, q⟩ := h
    obtain ⟨tk, hK⟩ := N.KEYS
    obtain ⟨tm, hM⟩ := N.MOST_ROWS
    refine ⟨_, pss_one (ps_ret (pe_and (pe_own dR hr (Nat.le_refl _) (by rfl) (pa_cons (pv 0) (pa_cons pe_int (pa_cons (pe_glob (v := .int 1000) (by rfl) hK ⟨_, rfl⟩) pa_nil))))
      (pe_one (pe_cmpR op_le (pe_callB call_len_seq (by rfl) N.len PySem.boot_len (pa_cons (pv 0) pa_nil)) (pe_glob (v := .int 100) (by rfl) hM ⟨_, rfl⟩) (nomark _))))), ?_⟩
    rw [table_rows] at q
    refine s_ret (ev_andV (ev_rowsT (ev_var rfl) hd ev_c ev_c) fun e => ?_) q
    cases d with
    | tuple ds =>
      obtain ⟨a, xs, ds', e1, e2, hS, hA⟩ := tup_dp hd rfl
      cases e1
      cases e2
      exact ev_is (ev_op (ev_lenT (ev_var rfl) hS) ev_c rv_I0) (by
        rw [dps_len hA]
        show V.bl (decide ((ds.length : Int) ≤ 100)) = V.bl (decide (ds.length ≤ 100))
        congr 1
        exact decide_eq_decide.mpr (by omega))
    | _ => cases e
end
end K18
namespace K18
open PySem L2 PyProof.Rows Tc Evl
abbrev sBag : Stmt := topS 57
abbrev sTake : Stmt := topS 58
theorem scBag : FnScope ["script", "k", "cell"] ["script", "k"] (defScope sBag) := ⟨rfl, rfl, rfl, by decide +kernel, rfl, by decide +kernel, by decide +kernel⟩
theorem scTake : FnScope ["bag", "man1", "found"] ["bag", "man1"] (defScope sTake) := ⟨rfl, rfl, rfl, by decide +kernel, rfl, by decide +kernel, by decide +kernel⟩
section
variable {P : Program} {w : World} {K : PySem.W.Frag} {mg : Str → Option Value} {base : Heap}
theorem ok_take {f : Addr} {fd : FuncData} {k : Nat} (F : Fun K "_law_take" "_law_take" sTake f fd) : FnOk P w K mg base CX0 (k + 1) f fd ["bag", "man1"] spTake := by
  refine F.ok scTake (fun vs H Q E h => ?_) (fun cdv A outer s H vs Q E hr h => ?_)
  · obtain ⟨b, m, rfl, _⟩ := h
    rfl
  · obtain ⟨b, m, rfl, ⟨x, y, hb, hx, hy, hz⟩, hm, hm2, q⟩ := h
    refine ⟨_, pss_cons (ps_if (pt_cmpR op_gt (pe_ix ix_list (pv 0) pe_int (fun _ _ => rfl)) pe_int (nomark _))
        (pss_cons (ps_set (i := 2) scTake.nd rfl (.inl rfl) (pe_op op_mod (pe_ix ix_list (pv 0) pe_int (fun _ _ => rfl)) (pv 1)))
        (pss_cons (ps_asg (pe_op op_fdiv (pe_ix ix_list (pv 0) pe_int (fun _ _ => rfl)) (pv 1)) (pg_sub (pv 0) pe_int set_list))
        (pss_one (ps_ret (pv 2))))) pss_nil)
      (pss_cons (ps_asg (pe_op op_mod (pe_op op_mul (pe_ix ix_list (pv 0) pe_int (fun _ _ => rfl)) pe_int) pe_int) (pg_sub (pv 0) pe_int set_list))
      (pss_one (ps_ret (pe_op op_mod (pe_op op_fdiv (pe_op op_mod (pe_op op_mul (pe_ix ix_list (pv 0) pe_int (fun _ _ => rfl)) (pe_ix ix_list (pv 0) pe_int (fun _ _ => rfl))) pe_int) pe_int) (pv 1))))), ?_⟩
    have hS : SqL K H b [.int x, .int y] := sq_of hb
    refine s_if (et_test (ev_op (ev_l0 (ev_var rfl) hS) ev_c rv_I0)) (fun e H1 x1 => ?_) (fun e H1 x1 => ?_)
    · refine s_seq (s_asg (ev_op (ev_l0 (ev_var rfl) (ex_l x1 hS)) (ev_var rfl) (rv_mod hm)) fun H2 x2 => s_seq ?_)
      refine s_setL (l := b) (j := 0) (x2 b _ (x1 b _ hb)) (ev_op (ev_l0 (ev_var rfl) (ex_l (x1.trans x2) hS)) (ev_var rfl) (rv_fdiv hm hm2)) (ev_var rfl) ev_c (by simp) fun H3 x3 => ?_
      refine s_ret (ev_var rfl) fun H4 x4 => q _ _ ((Fr.put ((x1.trans x2).trans x3) (Int.ediv_nonneg hx (by omega)) hy hz).trans (Fr.ex ?_ x4)) (Int.emod_nonneg _ (by omega)) (Int.emod_lt_of_pos _ hm)
      exact ⟨x / m, y, upd_same, Int.ediv_nonneg hx (by omega), hy, hz⟩
    · have hS1 := ex_l x1 hS
      refine s_next (s_seq (s_setL (l := b) (j := 1) (x1 b _ hb) (ev_op (ev_op (ev_l1 (ev_var rfl) hS1) ev_c (rv_mul (.inl ⟨by omega, by omega⟩))) ev_c (rv_mod (by decide))) (ev_var rfl) ev_c (by simp) fun H2 x2 => ?_))
      have y1 := Int.emod_nonneg (y * 48271) (b := 2147483647) (by decide)
      have y2 := Int.emod_lt_of_pos (y * 48271) (b := 2147483647) (by decide)
      generalize hyy : y * 48271 % 2147483647 = yy at y1 y2
      have hb2 : (upd H2 b (.lst [.int x, .int yy])) b = some (.lst [.int x, .int yy]) := upd_same
      have hB : Bag (upd H2 b (.lst [.int x, .int yy])) b := ⟨x, yy, upd_same, hx, y1, by omega⟩
      have hS2 : SqL K (upd H2 b (.lst [.int x, .int yy])) b [.int x, .int yy] := sq_of upd_same
      refine s_ret (ev_op (ev_op (ev_op (ev_op (ev_l1 (ev_var rfl) hS2) (ev_l1 (ev_var rfl) hS2) (rv_mul (.inl ⟨by omega, by omega⟩))) ev_c (rv_mod (by decide))) ev_c (rv_fdiv (by decide) (by decide))) (ev_var rfl) (rv_mod hm)) fun H4 x4 => ?_
      exact q _ _ ((Fr.put (x1.trans x2) hx y1 (by omega)).trans (Fr.ex hB x4)) (Int.emod_nonneg _ (by omega)) (Int.emod_lt_of_pos _ hm)
theorem ok_bag {f : Addr} {fd : FuncData} {k : Nat} (F : Fun K "_law_bag" "_law_bag" sBag f fd) (N : Names mg) : FnOk P w K mg base CX0 (k + 1) f fd ["script", "k"] (spBag K) := by
  refine F.ok scBag (fun vs H Q E h => ?_) (fun cdv A outer s H vs Q E hr h => ?_)
  · obtain ⟨a, ns, k, rfl, _⟩ := h
    rfl
  · obtain ⟨a, ns, n, rfl, hS, hn, q⟩ := h
    refine ⟨_, pss_cons (ps_set (i := 2) scBag.nd rfl (.inl rfl) pe_int)
      (Evl.pss_cut (ps_if (pt_cmpR op_lt (pv 1) (pe_callB call_len_seq (by rfl) N.len PySem.boot_len (pa_cons (pv 0) pa_nil)) (nomark _)) (pss_one (ps_set (i := 2) scBag.nd rfl (.inl rfl) (pe_callB call_abs (by rfl) N.abs boot_abs (pa_cons (pe_ix ix_list (pv 0) (pv 1) (fun _ _ => rfl)) pa_nil)))) pss_nil)
      (pss_cons (ps_if (pt_cmpR op_lt (pv 2) (pe_op op_pow pe_int pe_int) (nomark _)) (pss_one (ps_ret (pe_lst (pa_cons pe_int (pa_cons (pe_op op_add pe_int (pe_op op_mod (pe_op op_add (pe_op op_mul (pv 2) pe_int) (pe_op op_mul pe_int (pv 1))) pe_int)) pa_nil))))) pss_nil)
      (pss_one (ps_ret (pe_lst (pa_cons (pv 2) (pa_cons (pe_op op_add pe_int (pe_op op_mod (pe_op op_add (pv 2) (pv 1)) pe_int)) pa_nil))))))), ?_⟩
    refine s_seq (s_asg ev_c fun H1 x1 => ⟨fun σ' H' => ∃ c : Int, σ' = [some (.ref a), some (.int (n : Int)), some (.int c)] ∧ Ex H H' ∧ 0 ≤ c, ?_, fun σ' H' m => ?_⟩)
    · refine s_if (et_test (ev_op (ev_var rfl) (ev_len (ev_var rfl) (ex_l x1 hS)) rv_I0)) (fun e H2 x2 => ?_) (fun e H2 x2 => ⟨0, rfl, x1.trans x2, by decide⟩)
      have e1 := of_decide_eq_true e
      rw [List.length_map] at e1
      have hlt : n < ns.length := by omega
      have hx : (ns.map V.int)[n]? = some (.int ns[n]) := by
        rw [List.getElem?_map, List.getElem?_eq_getElem hlt]
        rfl
      refine s_asg (ev_abs (ev_lx (ev_var rfl) (ev_var rfl) (ex_l (x1.trans x2) hS) hx)) fun H3 x3 => ⟨_, rfl, (x1.trans x2).trans x3, ?_⟩
      split <;> omega
    · obtain ⟨c, rfl, xx, hc⟩ := m
      refine s_seq (s_if (et_test (ev_op (ev_var rfl) (ev_op ev_c ev_c (rv_pow ⟨by decide, by decide, by decide⟩)) rv_I0)) (fun e H2 x2 => ?_) (fun e H2 x2 => s_next ?_))
      · refine s_retL (el_lst (ea_cons ev_c (ea_cons (ev_op ev_c (ev_op (ev_op (ev_op (ev_var rfl) ev_c (rv_mul (.inr ⟨by decide, by decide⟩))) (ev_op ev_c (ev_var rfl) (rv_mul (.inl ⟨by decide, by decide⟩))) rv_add) ev_c (rv_mod (by decide))) rv_add) ea_nil)) (by simp)) fun p H3 hp x3 hb => ?_
        have y1 := Int.emod_nonneg (c * 7919 + 104729 * (n : Int)) (b := 2147483646) (by decide)
        have y2 := Int.emod_lt_of_pos (c * 7919 + 104729 * (n : Int)) (b := 2147483646) (by decide)
        exact q p H3 (fresh_back (xx.trans x2) hp) ((xx.trans x2).trans x3) ⟨_, _, hb, by decide, by omega, by omega⟩
      · refine s_retL (el_lst (ea_cons (ev_var rfl) (ea_cons (ev_op ev_c (ev_op (ev_op (ev_var rfl) (ev_var rfl) rv_add) ev_c (rv_mod (by decide))) rv_add) ea_nil)) (by simp)) fun p H3 hp x3 hb => ?_
        have y1 := Int.emod_nonneg (c + (n : Int)) (b := 2147483646) (by decide)
        have y2 := Int.emod_lt_of_pos (c + (n : Int)) (b := 2147483646) (by decide)
        exact q p H3 (fresh_back (xx.trans x2) hp) ((xx.trans x2).trans x3) ⟨_, _, hb, hc, by omega, by omega⟩
end
end K18
namespace K18
open PySem L2 PyProof.Rows Tc Evl
def once (ks : List Int) : List Int := ((List.range 1000).map Int.ofNat).filter (fun k => decide (k ∈ ks))
theorem once_pw (ks : List Int) : (once ks).Pairwise (· < ·) := by
  unfold once
  refine List.Pairwise.filter _ (List.pairwise_map.mpr ?_)
  exact List.pairwise_lt_range.imp fun h => Int.ofNat_lt.mpr h
theorem once_mem (ks : List Int) (hb : ∀ k ∈ ks, 0 ≤ k ∧ k < 1000) (k : Int) : k ∈ once ks ↔ k ∈ ks := by
  unfold once
  rw [List.mem_filter, decide_eq_true_eq]
  refine ⟨fun h => h.2, fun h => ⟨?_, h⟩⟩
  have := hb k h
  exact List.mem_map.mpr ⟨k.toNat, List.mem_range.mpr (by omega), by
    show ((k.toNat : Nat) : Int) = k
    omega⟩
theorem once_len (ks : List Int) : (once ks).length ≤ 1000 := by
  unfold once
  refine Nat.le_trans (List.length_filter_le _ _) ?_
  rw [List.length_map, List.length_range]
  exact Nat.le_refl _
theorem once_few (ks : List Int) (hb : ∀ k ∈ ks, 0 ≤ k ∧ k < 1000) : (once ks).length ≤ ks.length := len_sub ((once_pw ks).imp fun {a b} z e => by omega) fun x m => (once_mem ks hb x).mp m
theorem cut_nat (us : List V) (lo hi : Nat) (h1 : lo ≤ hi) : cutV us (some (lo : Int)) (some (hi : Int)) = (us.drop lo).take (hi - lo) := by
  unfold cutV
  rw [HT.sIx_nat, HT.sIx_nat]
  refine List.ext_getElem? fun i => ?_
  rw [List.getElem?_take, List.getElem?_take, List.getElem?_drop, List.getElem?_drop]
  by_cases c : lo ≤ us.length
  · rw [Nat.min_eq_left c]
    by_cases d : i < hi - lo
    · rw [if_pos d]
      by_cases e : i < min hi us.length - lo
      · rw [if_pos e]
      · rw [if_neg e, List.getElem?_eq_none (by omega)]
    · rw [if_neg d, if_neg (by omega)]
  · rw [if_neg (by omega), List.getElem?_eq_none (l := us) (i := lo + i) (by omega)]
    split <;> rfl
theorem dps_cutN {K : PySem.W.Frag} {H : Hp} {us : List V} {ds : List PyData} (h : DpAll K H us ds) (lo n : Nat) : DpAll K H ((us.drop lo).take n) ((ds.drop lo).take n) := dps_take n (dps_drop lo h)
theorem en_kind {ks : List Int} {d : PyData} (h : goodEn ks d = true) : (∃ cs, d = .tuple [.str "group", .tuple cs] ∧ ∀ c ∈ cs, goodCh ks c = true) ∨ ∃ (s : Str) (i j : Int), d = .tuple [.str s, .int i, .int j] ∧ s ≠ "group" := by
  unfold goodEn at h
  split at h
  · rename_i s cs
    rw [Bool.and_eq_true, List.all_eq_true] at h
    rw [of_decide_eq_true h.1]
    exact .inl ⟨cs, rfl, h.2⟩
  · rename_i s i j
    refine .inr ⟨s, i, j, rfl, fun z => ?_⟩
    rw [decide_eq_true z] at h
    cases h
  · cases h
theorem ch_kindW {ks : List Int} {d : PyData} (h : goodCh ks d = true) : (∃ k, d = .tuple [.str "drop", .int k] ∧ k ∈ ks) ∨ ∃ (k z : Int), d = .tuple [.str "put", .int k, .int z] ∧ k ∈ ks ∧ (0 ≤ z ∧ z < 1000) := by
  unfold goodCh at h
  split at h
  · rename_i s k
    rw [Bool.and_eq_true] at h
    rw [of_decide_eq_true h.1]
    exact .inl ⟨k, rfl, of_decide_eq_true h.2⟩
  · rename_i s k z
    rw [Bool.and_eq_true, Bool.and_eq_true] at h
    rw [of_decide_eq_true h.1]
    exact .inr ⟨k, z, rfl, of_decide_eq_true h.2.1, of_decide_eq_true h.2.2⟩
  · cases h
theorem ch_kind {ks : List Int} {d : PyData} (h : goodCh ks d = true) : (∃ k, d = .tuple [.str "drop", .int k] ∧ k ∈ ks) ∨ ∃ (k z : Int), d = .tuple [.str "put", .int k, .int z] ∧ k ∈ ks := by
  rcases ch_kindW h with ⟨k, e, m⟩ | ⟨k, z, e, m, _⟩
  · exact .inl ⟨k, e, m⟩
  · exact .inr ⟨k, z, e, m⟩
def spKeysR : Sp := fun vs H Q _ => ∃ b : Addr, vs = [.ref b] ∧ Bag H b ∧ ∀ l (ks : List Int) H', Tc.Fr b H H' → KeysAt b H' l ks → ks.length < 64 → ks.Pairwise (· < ·) → Q (.ref l) H'
def spTabR (K : PySem.W.Frag) : Sp := fun vs H Q _ => ∃ (b l : Addr) (ks : List Int), vs = [.ref b, .ref l] ∧ Bag H b ∧ KeysAt b H l ks ∧ ∀ p rs H', Tc.Fr b H H' → TP K H' p rs → (∀ r ∈ rs, r.1 ∈ ks) → (∀ r ∈ rs, 0 ≤ r.2 ∧ r.2 < 1000) → rs.length ≤ ks.length → (ks.Pairwise (· < ·) → rs.Pairwise fun a b => a.1 < b.1) → Q (.ref p) H'
def spChsL (K : PySem.W.Frag) : Sp := fun vs H Q _ => ∃ (b l : Addr) (ks : List Int) (m : Int) (S : Addr → Prop), vs = [.ref b, .ref l, .int m] ∧ Bag H b ∧ Sok S b H ∧ KeysAt b H l ks ∧ 1 ≤ m ∧ m ≤ 6 ∧
  ∀ v ds H', Tc.Fr b H H' → Dp K (cut S H') v (.tuple ds) → (∀ d ∈ ds, goodCh ks d = true) → ds.length ≤ 6 → Q v H'
section
variable {P : Program} {w : World} {K : PySem.W.Frag} {mg : Str → Option Value} {base : Heap}
theorem dpt2 {H : Hp} {v : V} {d0 d1 : PyData} (h : Dp K H v (.tuple [d0, d1])) : ∃ a x0 x1, v = .ref a ∧ SqT K H a [x0, x1] ∧ Dp K H x0 d0 ∧ Dp K H x1 d1 := by
  cases h with
  | tup hs r =>
    cases r with
    | cons h0 r =>
      cases r with
      | cons h1 r =>
        cases r
        exact ⟨_, _, _, rfl, hs, h0, h1⟩
theorem dpt3 {H : Hp} {v : V} {d0 d1 d2 : PyData} (h : Dp K H v (.tuple [d0, d1, d2])) : ∃ a x0 x1 x2, v = .ref a ∧ SqT K H a [x0, x1, x2] ∧ Dp K H x0 d0 ∧ Dp K H x1 d1 ∧ Dp K H x2 d2 := by
  cases h with
  | tup hs r =>
    cases r with
    | cons h0 r =>
      cases r with
      | cons h1 r =>
        cases r with
        | cons h2 r =>
          cases r
          exact ⟨_, _, _, _, rfl, hs, h0, h1, h2⟩
theorem g_name {i : Nat} {v : V} {σ : L2.St} {H : Hp} {Q : L2.St → Hp → Prop} (h : Q (σ.set i (some v)) H) : gName i v σ H Q := h
theorem t_asg {te : TE} {g : TG} {D : Ends} {σ : L2.St} {H : Hp} (h : te σ H fun x H1 => g x σ H1 D.nx) : tAsg te g D σ H := h
abbrev sKeys : Stmt := topS 61
theorem scKeys : FnScope ["bag", "step", "first", "at"] ["bag"] (defScope sKeys) := ⟨rfl, rfl, rfl, by decide +kernel, rfl, by decide +kernel, by decide +kernel⟩
theorem ok_keys {f : Addr} {fd : FuncData} {k : Nat} (F : Fun K "_law_keys" "_law_keys" sKeys f fd) (N : Names mg) (dT : Own P w K mg base "_law_take" ["bag", "man1"] k spTake) : FnOk P w K mg base CX0 (k + 1) f fd ["bag"] spKeysR := by
  refine F.ok scKeys (fun vs H Q E h => ?_) (fun cdv A outer s H vs Q E hr h => ?_)
  · obtain ⟨b, rfl, _⟩ := h
    rfl
  · obtain ⟨b, rfl, hB, q⟩ := h
    refine ⟨_, pss_cons (ps_set (i := 1) scKeys.nd rfl (.inr rfl) (pe_ix ix_list (pe_lst (pa_cons pe_int (pa_cons pe_int (pa_cons pe_int (pa_cons pe_int pa_nil))))) (pe_own dT hr (Nat.le_refl _) (by rfl) (pa_cons (pv 0) (pa_cons pe_int pa_nil))) (fun _ _ => rfl)))
      (pss_cons (ps_set (i := 2) scKeys.nd rfl (.inr rfl) (pe_own dT hr (Nat.le_refl _) (by rfl) (pa_cons (pv 0) (pa_cons (pe_op op_sub pe_int (pe_op op_mul pe_int (pv 1))) pa_nil))))
      (pss_one (ps_ret (pe_callB (cr_sortedSetA rfl) (by rfl) N.sorted boot_sorted (pa_cons (pe_callTy (cr_setL rfl) (by rfl) N.set boot_set (pa_cons (pe_op op_cat (pe_lc (own := [("at", 3)]) (g := gName 3) (tt := tYes) (te := tOp (rI0 fun i j => .int (i + j)) (tVar 2) (tOp (rI CMul fun i j => .int (i * j)) (tVar 1) (tVar 3))) rfl scKeys.nd
          (pi_range1 rfl N.range (pa_cons pe_int pa_nil)) (blkOk_by (N := ["bag", "step", "first", "at"]) (sc := defScope sKeys) (by decide +kernel)) (fun _ _ _ _ _ => pg_name (i := 3) scKeys.nd rfl (Or.inl rfl)) (fun _ _ _ _ _ => pts_nil) (fun _ _ _ _ _ => pe_op op_add (pv 2) (pe_op op_mul (pv 1) (pv 3))))
        (pe_lst (pa_cons pe_int (pa_cons pe_int pa_nil)))) pa_nil)) pa_nil))))), ?_⟩
    refine s_seq (item_new (b := b) (xs := [.int 1, .int 2, .int 7, .int 90]) (el_lst (ea_cons ev_c (ea_cons ev_c (ea_cons ev_c (ea_cons ev_c ea_nil)))) (by simp)) hB (fun H1 f1 Q q => take_of (m := 4) f1.bag (ea_cons (ev_var rfl) (ea_cons ev_c ea_nil)) (by decide) (by decide) q) fun v H1 f1 hv => ?_)
    obtain ⟨st, rfl, hst⟩ : ∃ st : Int, v = .int st ∧ (st = 1 ∨ st = 2 ∨ st = 7 ∨ st = 90) := by
      simp only [List.mem_cons, List.not_mem_nil, or_false] at hv
      rcases hv with h | h | h | h <;> exact ⟨_, h, by simp⟩
    refine s_seq (take_of (b := b) (m := 1000 - 9 * st) f1.bag (ea_cons (ev_var rfl) (ea_cons (ev_op ev_c (ev_op ev_c (ev_var rfl) (rv_mul (.inl ⟨by decide, by decide⟩))) rv_sub) ea_nil)) (by omega) (by omega) fun r H2 f2 h0 h1 => ?_)
    have hks : ((List.range 10).map fun (i : Nat) => V.int (r + st * (i : Int))) ++ [V.int 0, V.int 999] = (((List.range 10).map fun (i : Nat) => r + st * (i : Int)) ++ [0, 999]).map V.int := by
      rw [List.map_append, List.map_map]
      rfl
    have hb : ∀ k ∈ ((List.range 10).map fun (i : Nat) => r + st * (i : Int)) ++ [0, 999], 0 ≤ k ∧ k < 1000 := fun k m => by
      rcases List.mem_append.mp m with m | m
      · obtain ⟨i, hi, rfl⟩ := List.mem_map.mp m
        have := List.mem_range.mp hi
        rcases hst with h | h | h | h <;> subst h <;> omega
      · simp only [List.mem_cons, List.not_mem_nil, or_false] at m
        omega
    refine s_retL (el_sortset (ns := ((List.range 10).map fun (i : Nat) => r + st * (i : Int)) ++ [0, 999]) (ms := once (((List.range 10).map fun (i : Nat) => r + st * (i : Int)) ++ [0, 999])) (el_is (el_cat (xs := (List.range 10).map fun (i : Nat) => V.int (r + st * (i : Int))) (el_is (el_lcR1 (n := 10) (fun _ => true) (fun i => V.int (r + st * (i : Int))) (ea_cons ev_c ea_nil) (by decide) (fun x => rfl) (fun i H1 e hi => et_yes)
      (fun i H1 e hi _ => ev_op (ev_var rfl) (ev_op (ev_var rfl) (ev_var rfl) (rv_mul (.inl ?_))) rv_add)) (given_all _ _)) (el_lst (ea_cons ev_c (ea_cons ev_c ea_nil)) (by simp)) (by simp)) hks) (by simp) fun l h3 h4 => rising_one l _ h3 (once_pw _) fun k => (h4 k).trans (once_mem _ hb k).symm) fun p H3 hp x3 h3 => ?_
    · rcases hst with h | h | h | h <;> subst h <;> decide
    · exact q p _ H3 ((f1.trans f2).trans (Fr.ex f2.bag x3)) ⟨f2.bag.ne hp, h3, fun k m => hb k ((once_mem _ hb k).mp m), once_len _, List.length_pos_of_mem ((once_mem _ hb 0).mpr (by simp))⟩ (Nat.lt_of_le_of_lt (once_few _ hb) (by simp)) (once_pw _)
abbrev sOf : Stmt := topS 59
theorem scOf : FnScope ["bag", "some"] ["bag", "some"] (defScope sOf) := ⟨rfl, rfl, rfl, by decide +kernel, rfl, by decide +kernel, by decide +kernel⟩
theorem ok_of {f : Addr} {fd : FuncData} {kT kO kC k : Nat} (F : Fun K "_law_of" "_law_of" sOf f fd) (N : Names mg) (dT : Own P w K mg base "_law_take" ["bag", "man1"] kT spTake) (hT : kT ≤ k) : FnOk P w K mg base CX0 (k + 1) f fd ["bag", "some"] spOf := by
  refine F.ok scOf (fun vs H Q E h => ?_) (fun cdv A outer s H vs Q E hr h => ?_)
  · obtain ⟨b, l, ks, rfl, _⟩ := h
    rfl
  · obtain ⟨b, l, ks, rfl, hB, hk, q⟩ := h
    refine ⟨_, (pss_one (ps_ret (pe_ix ix_list (pv 1) (pe_own dT hr hT (by rfl) (pa_cons (pv 0) (pa_cons (pe_callB call_len_seq (by rfl) N.len PySem.boot_len (pa_cons (pv 1) pa_nil)) pa_nil))) (fun _ _ => rfl)))), ?_⟩
    refine ⟨.ref l, rfl, take_of (b := b) (m := (ks.length : Int)) hB (ea_cons (ev_var rfl) (ea_cons (ev_is (ev_len (ev_var rfl) (sq_of hk.h)) (by rw [List.length_map])) ea_nil)) (by have := hk.some; omega) (by have := hk.few; omega) fun r H1 f1 r0 r1 => ?_⟩
    obtain ⟨n, rfl⟩ : ∃ n : Nat, r = (n : Int) := ⟨r.toNat, by omega⟩
    have hn : n < ks.length := by omega
    exact ⟨l, ks.map V.int, n, .int ks[n], rfl, rfl, sq_of (hk.fr f1).h, atI_nat (by rw [List.getElem?_map, List.getElem?_eq_getElem hn]; rfl), q _ _ (List.getElem_mem hn) f1⟩
abbrev sTab : Stmt := topS 62
theorem scTab : FnScope ["bag", "keys", "key"] ["bag", "keys"] (defScope sTab) := ⟨rfl, rfl, rfl, by decide +kernel, rfl, by decide +kernel, by decide +kernel⟩
theorem ok_tab {f : Addr} {fd : FuncData} {k : Nat} (F : Fun K "_law_table" "_law_table" sTab f fd) (N : Names mg) (dT : Own P w K mg base "_law_take" ["bag", "man1"] k spTake) : FnOk P w K mg base CX0 (k + 1) f fd ["bag", "keys"] (spTabR K) := by
  refine F.ok scTab (fun vs H Q E h => ?_) (fun cdv A outer s H vs Q E hr h => ?_)
  · obtain ⟨b, l, ks, rfl, _⟩ := h
    rfl
  · obtain ⟨b, l, ks, rfl, hB, hka, q⟩ := h
    have hl := hka.h
    have hlb := hka.ne
    have hk := hka.bd
    have hn := hka.few
    refine ⟨_, pss_one (ps_ret (pe_callTy cr_tupP (by rfl) N.tuple boot_tuple (pa_cons (pe_lc (own := [("key", 2)]) (g := gName 2) (tt := tTest (tOp (rI0 fun i j => .bl (decide (j < i))) (tCall spTake [] E0 (tCons (tVar 0) (tCons (tC (.int 3)) tNil))) (tC (.int 0))))
        (te := tTup (tCons (tVar 2) (tCons (tCall spTake [] E0 (tCons (tVar 0) (tCons (tC (.int 1000)) tNil))) tNil))) rfl scTab.nd (pi_list (pv 1)) (blkOk_by (N := ["bag", "keys", "key"]) (sc := defScope sTab) (by decide +kernel)) (fun _ _ _ _ _ => pg_name (i := 2) scTab.nd rfl (Or.inl rfl))
        (fun _ _ _ _ _ => pts_one (pt_cmpR op_gt (pe_own dT hr (Nat.le_refl _) (by rfl) (pa_cons (pv 0) (pa_cons pe_int pa_nil))) pe_int (nomark _)))
        (fun _ _ _ _ _ => pe_tup (pa_cons (pv 2) (pa_cons (pe_own dT hr (Nat.le_refl _) (by rfl) (pa_cons (pv 0) (pa_cons pe_int pa_nil))) pa_nil)))) pa_nil))), ?_⟩
    refine ⟨.ref l, rfl, l, rfl, ⟨_, sq_of hl⟩, fun D hD => ?_⟩
    refine lc_list (K := K) (xs := ks.map V.int) (ColW b K (rowsUp ks) H D) (ColW.start hB hD ⟨[], rfl, fun r m => (by cases m), fun _ => .nil⟩) (fun i H' _ c => sq_of (c.fr.at hl hlb)) (fun i x H' hx c => ⟨rfl, ?_⟩) (fun H' c => ?_)
    · rw [List.getElem?_map] at hx
      obtain ⟨kk, hkk, rfl⟩ := Option.map_eq_some_iff.mp hx
      have hi : i < ks.length := (List.getElem?_eq_some_iff.mp hkk).1
      refine take_of (b := b) (m := 3) c.fr.bag (ea_cons (ev_var rfl) (ea_cons ev_c ea_nil)) (by decide) (by decide) fun r H1 f1 r0 r1 => ⟨r, 0, rfl, rfl, _, rfl, ite2 (fun e => ?_) (fun e => c.skip f1 fun _ h => h.skip)⟩
      refine ⟨.int kk, rfl, take_of (b := b) (m := 1000) f1.bag (ea_cons (ev_var rfl) (ea_cons ev_c ea_nil)) (by decide) (by decide) fun r2 H2 f2 r3 r4 => ⟨sz_of (by simp), fun p hp => ?_⟩⟩
      exact c.push ((f1.trans f2).trans (Fr.new f2.bag hp)) (dp_pair f2.bag (c.skip (f1.trans f2) fun _ h => h.skip).at hp) (fun _ h => h.push hkk ⟨r3, r4⟩) (by omega)
    · rw [List.length_map] at c
      obtain ⟨vs, ds, h1, h2, h3, rs, rfl, hr', hu⟩ := c.ex
      have rl : rs.length ≤ ks.length := by
        have := dps_len h2
        rw [List.length_map] at this
        omega
      exact ⟨D, vs, rfl, sq_of h1, fun t o ht od => q t rs _ (c.fr.trans (Fr.new c.fr.bag ht)) ⟨vs, ⟨o, upd_same, od⟩, dps_same (Ex.new ht) _ _ (dps_same (hid_same b _) _ _ (dps_same (hid_same D _) _ _ h2))⟩ (fun r m => List.mem_of_mem_take (hr' r m).1) (fun r m => (hr' r m).2) rl hu⟩
abbrev sLCh : Stmt := topS 63
theorem scLCh : FnScope ["bag", "keys", "most", "found", "turn", "key"] ["bag", "keys", "most"] (defScope sLCh) := ⟨rfl, rfl, rfl, by decide +kernel, rfl, by decide +kernel, by decide +kernel⟩
theorem ok_chs {f : Addr} {fd : FuncData} {kT kO kC k : Nat} (F : Fun K "_law_changes" "_law_changes" sLCh f fd) (N : Names mg) (dT : Own P w K mg base "_law_take" ["bag", "man1"] kT spTake) (hT : kT ≤ k) (dOf : Own P w K mg base "_law_of" ["bag", "some"] kO spOf) (hO : kO ≤ k) : FnOk P w K mg base CX0 (k + 1) f fd ["bag", "keys", "most"] (spChsL K) := by
  refine F.ok scLCh (fun vs H Q E h => ?_) (fun cdv A outer s H vs Q E hr h => ?_)
  · obtain ⟨b, l, ks, m, S, rfl, _⟩ := h
    rfl
  · obtain ⟨b, l, ks, m, S, rfl, hB, hS, hk, m1, m6, q⟩ := h
    refine ⟨_, (pss_cons (ps_set (i := 3) scLCh.nd rfl (.inl rfl) (pe_lst pa_nil))
      (pss_cons (ps_for PassesOwn.never rfl (pi_range1 rfl N.range (pa_cons (pe_op op_add pe_int (pe_own dT hr hT (by rfl) (pa_cons (pv 0) (pa_cons (pv 2) pa_nil)))) pa_nil)) (pg_name (i := 4) scLCh.nd rfl (.inl rfl)) (pss_cons (ps_set (i := 5) scLCh.nd rfl (.inl rfl) (pe_own dOf hr hO (by rfl) (pa_cons (pv 0) (pa_cons (pv 1) pa_nil))))
      (pss_one (ps_if (pt_cmpR op_eq (pe_own dT hr hT (by rfl) (pa_cons (pv 0) (pa_cons pe_int pa_nil))) pe_int (nomark _)) (pss_one (ps_expr (pe_bm PySem.F.plainAttrs_list PySem.F.slot_list_append PySem.F.type_list_append mt_append (pv 3) (pa_cons (pe_tup (pa_cons pe_str (pa_cons (pv 5) pa_nil))) pa_nil)))) (pss_one (ps_expr (pe_bm PySem.F.plainAttrs_list PySem.F.slot_list_append PySem.F.type_list_append mt_append (pv 3) (pa_cons (pe_tup (pa_cons pe_str (pa_cons (pv 5) (pa_cons (pe_ix ix_list (pe_lst (pa_cons (pe_own dT hr hT (by rfl) (pa_cons (pv 0) (pa_cons pe_int pa_nil))) (pa_cons (pe_own dT hr hT (by rfl) (pa_cons (pv 0) (pa_cons pe_int pa_nil))) pa_nil))) (pe_own dT hr hT (by rfl) (pa_cons (pv 0) (pa_cons pe_int pa_nil))) (fun _ _ => rfl)) pa_nil)))) pa_nil))))))))
      (pss_one (ps_ret (pe_callTy call_tuple_of (by rfl) N.tuple boot_tuple (pa_cons (pv 3) pa_nil)))))), ?_⟩
    refine s_seq ⟨Nat.zero_le _, fun D hD => g_name ?_⟩
    dsimp only
    have c0 : ColE S b K (goodCh ks) H D 0 (upd H D (.lst [])) := ColE.start hS hB hD
    refine s_seq (take_of (b := b) (m := m) c0.fr.bag (ea_cons (ev_var rfl) (ea_cons (ev_var rfl) ea_nil)) (by omega) (by omega) fun r H1 f1 r0 r1 => ⟨1, r, rfl, rfl, 1 + r, rfl, by omega, by omega, ?_⟩)
    refine for_range (lo := 0) (n := (1 + r).toNat) (fun i σ' H' => ∃ y4 y5, σ' = [some (.ref b), some (.ref l), some (.int m), some (.ref D), y4, y5] ∧ ColE S b K (goodCh ks) H D i H') ⟨none, none, rfl, c0.skip f1⟩ (fun i σ' H' hi p => ?_) (fun σ' H' p => ?_)
    · obtain ⟨y4, y5, rfl, c⟩ := p
      have i5 : i < 10000 := by omega
      refine g_name (s_seq ⟨.ref b, rfl, .ref l, rfl, b, l, ks, rfl, c.fr.bag, hk.fr c.fr, fun kk H2 mk f2 => g_name ?_⟩)
      dsimp only
      have hb := hk.bd kk mk
      refine take_of (b := b) (m := 3) f2.bag (ea_cons (ev_var rfl) (ea_cons ev_c ea_nil)) (by decide) (by decide) fun r2 H3 f3 r3 r4 => ⟨rfl, _, rfl, ite2 (fun e => ?_) (fun e => ?_)⟩
      · obtain ⟨vs, _, hDv, _⟩ := (c.skip (f2.trans f3)).ex
        refine ⟨.ref D, rfl, .inl ⟨rfl, vs, sq_of hDv⟩, .int kk, rfl, sz_of (by simp), fun p hp => ?_⟩
        obtain ⟨acc, h1, h2, h3⟩ := c.push ((f2.trans f3).trans (Fr.new f3.bag hp)) (dp_leaves (c.skip (f2.trans f3)).sokD hp fun H2 => .cons (.str "drop") (.cons (.int kk) .nil)) (gq_drop mk) i5
        exact ⟨D, acc, .ref p, rfl, rfl, h1, h2, _, _, rfl, h3⟩
      · obtain ⟨vs, _, hDv, _⟩ := (c.skip (f2.trans f3)).ex
        refine ⟨.ref D, rfl, .inl ⟨rfl, vs, sq_of hDv⟩, .int kk, rfl, take_of (b := b) (m := 1000) f3.bag (ea_cons (ev_var rfl) (ea_cons ev_c ea_nil)) (by decide) (by decide) fun w1 H4 f4 w2 w3 => take_of (b := b) (m := 3) f4.bag (ea_cons (ev_var rfl) (ea_cons ev_c ea_nil)) (by decide) (by decide) fun w4 H5 f5 w5 w6 => ⟨sz_of (by simp), fun L hL => ?_⟩⟩
        have fL := Fr.new (o := .lst [.int w1, .int w4]) f5.bag hL
        refine take_of (b := b) (m := 2) fL.bag (ea_cons (ev_var rfl) (ea_cons ev_c ea_nil)) (by decide) (by decide) fun w7 H6 f6 w8 w9 => ?_
        have hL6 : H6 L = some (.lst [.int w1, .int w4]) := f6.at upd_same (f5.bag.ne hL)
        have fA := (((f2.trans f3).trans (f4.trans f5)).trans fL).trans f6
        obtain ⟨n, rfl⟩ : ∃ n : Nat, w7 = (n : Int) := ⟨w7.toNat, by omega⟩
        obtain ⟨wv, hwv, hwb⟩ : ∃ wv : Int, [V.int w1, .int w4][n]? = some (.int wv) ∧ (0 ≤ wv ∧ wv < 1000) := by
          have : n = 0 ∨ n = 1 := by omega
          rcases this with rfl | rfl
          · exact ⟨w1, rfl, w2, w3⟩
          · exact ⟨w4, rfl, w5, by omega⟩
        refine ⟨L, _, n, .int wv, rfl, rfl, sq_of hL6, atI_nat hwv, sz_of (by simp), fun p hp => ?_⟩
        obtain ⟨acc, h1, h2, h3⟩ := c.push (fA.trans (Fr.new f6.bag hp)) (dp_leaves (c.skip fA).sokD hp fun H2 => .cons (.str "put") (.cons (.int kk) (.cons (.int wv) .nil))) (gq_put mk hwb) i5
        exact ⟨D, acc, .ref p, rfl, rfl, h1, h2, _, _, rfl, h3⟩
    · obtain ⟨y4, y5, rfl, c⟩ := p
      obtain ⟨vs, ds, h1, h2, h3, h4⟩ := c.ex
      dsimp only
      have hl := dps_len h2
      exact ⟨.ref D, rfl, D, vs, rfl, .inl ⟨sq_of h1, fun p hp => q (.ref p) ds _ (c.fr.trans (Fr.new c.fr.bag hp)) (cdt_new (hS.fr c.fr) c.fr.bag hp (dps_same also_same _ _ h2)) h4 (by omega)⟩⟩
end
def isCh : PyData → Bool
  | .tuple [s, k] => eqS "drop" s && isKey k
  | .tuple [s, k, z] => eqS "put" s && (isKey k && isKey z)
  | _ => false
def isGr : PyData → Bool
  | .tuple ds => (decide (1 ≤ (ds.length : Int)) && decide ((ds.length : Int) ≤ 6)) && ds.all isCh | _ => false
def atLeast (n : Int) : PyData → Bool
  | .int i => decide (n ≤ i) | _ => false
def isMark : PyData → Bool
  | .tuple [s, l, z] => inS ["low", "high"] s && (atLeast 1 l && atLeast 0 z) | _ => false
def isEn : PyData → Bool
  | .tuple [s, g] => eqS "group" s && isGr g | d => isMark d
def isLog : PyData → Bool
  | .list ds => decide ((ds.length : Int) ≤ 400) && ds.all isEn | _ => false
theorem lenI {n : Nat} {m : Int} : decide (V.int (n : Int) = V.int m) = decide ((n : Int) = m) := decide_eq_decide.mpr ⟨fun z => V.int.inj z, fun z => congrArg V.int z⟩
section
variable {P : Program} {w : World} {K : PySem.W.Frag} {mg : Str → Option Value} {base : Heap}
theorem not_tup {d : PyData} (h : isTup d = false) : isCh d = false ∧ isGr d = false ∧ isMark d = false ∧ isEn d = false := by
  cases d <;> first | exact ⟨rfl, rfl, rfl, rfl⟩ | cases h
theorem lst_dp {H : Hp} {v : V} {d : PyData} (h : Dp K H v d) (e : isLst d = true) : ∃ a xs ds, v = .ref a ∧ d = .list ds ∧ SqL K H a xs ∧ DpAll K H xs ds := by
  cases h with
  | lst h r => exact ⟨_, _, _, rfl, rfl, h, r⟩
  | _ => cases e
theorem dps2 {H : Hp} {xs : List V} {d0 d1 : PyData} (h : DpAll K H xs [d0, d1]) : ∃ x0 x1, xs = [x0, x1] ∧ Dp K H x0 d0 ∧ Dp K H x1 d1 := by
  cases h with
  | cons h0 r =>
    cases r with
    | cons h1 r =>
      cases r
      exact ⟨_, _, rfl, h0, h1⟩
theorem dps3 {H : Hp} {xs : List V} {d0 d1 d2 : PyData} (h : DpAll K H xs [d0, d1, d2]) : ∃ x0 x1 x2, xs = [x0, x1, x2] ∧ Dp K H x0 d0 ∧ Dp K H x1 d1 ∧ Dp K H x2 d2 := by
  cases h with
  | cons h0 r =>
    obtain ⟨x1, x2, rfl, h1, h2⟩ := dps2 r
    exact ⟨_, _, _, rfl, h0, h1, h2⟩
theorem ch_len {ds : List PyData} (h2 : ¬ (ds.length : Int) = 2) (h3 : ¬ (ds.length : Int) = 3) : isCh (.tuple ds) = false ∧ isMark (.tuple ds) = false := by
  match ds with
  | [] => exact ⟨rfl, rfl⟩
  | [_] => exact ⟨rfl, rfl⟩
  | [_, _] => exact absurd rfl h2
  | [_, _, _] => exact absurd rfl h3
  | _ :: _ :: _ :: _ :: _ => exact ⟨rfl, rfl⟩
abbrev sCh : Stmt := topS 39
theorem scCh : FnScope ["thing"] ["thing"] (defScope sCh) := ⟨rfl, rfl, rfl, by decide +kernel, rfl, by decide +kernel, by decide +kernel⟩
theorem ok_ch {f : Addr} {fd : FuncData} {k : Nat} (F : Fun K "is_change" "is_change" sCh f fd) (N : Names mg) (dK : Own P w K mg base "is_key" ["thing"] k (spTold K isKey)) (dW : Own P w K mg base "is_worth" ["thing"] k (spTold K isKey)) : FnOk P w K mg base CX0 (k + 1) f fd ["thing"] (spTold K isCh) := by
  refine F.ok scCh (fun vs H Q E h => ?_) (fun cdv A outer s H vs Q E hr h => ?_)
  · obtain ⟨v, d, rfl, _⟩ := h
    rfl
  · obtain ⟨v, d, rfl, hd, q⟩ := h
    refine ⟨_, (pss_cons (ps_if (pt_not (pt_val (pe_callB call_isi (by rfl) N.isinstance boot_isinstance (pa_cons (pv 0) (pa_cons (pe_bltn (v := .ty "tuple") (by rfl) N.tuple boot_tuple rfl) pa_nil))))) (pss_one (ps_ret pe_bl)) pss_nil)
      (pss_cons (ps_if (pt_cmpR op_eq (pe_callB call_len_seq (by rfl) N.len PySem.boot_len (pa_cons (pv 0) pa_nil)) pe_int (nomark _)) (pss_one (ps_ret (pe_and (pe_cmpR (op_eqStr hr.units) (pe_ix ix_tup (pv 0) pe_int (fun _ _ => rfl)) pe_str (nomark _)) (pe_one (pe_own dK hr (Nat.le_refl _) (by rfl) (pa_cons (pe_ix ix_tup (pv 0) pe_int (fun _ _ => rfl)) pa_nil)))))) pss_nil)
      (pss_one (ps_ret (pe_and (pe_cmpR op_eq (pe_callB call_len_seq (by rfl) N.len PySem.boot_len (pa_cons (pv 0) pa_nil)) pe_int (nomark _)) (pe_and (pe_cmpR (op_eqStr hr.units) (pe_ix ix_tup (pv 0) pe_int (fun _ _ => rfl)) pe_str (nomark _)) (pe_and (pe_own dK hr (Nat.le_refl _) (by rfl) (pa_cons (pe_ix ix_tup (pv 0) pe_int (fun _ _ => rfl)) pa_nil)) (pe_one (pe_own dW hr (Nat.le_refl _) (by rfl) (pa_cons (pe_ix ix_tup (pv 0) pe_int (fun _ _ => rfl)) pa_nil)))))))))), ?_⟩
    cases hT : isTup d with
    | false =>
      obtain ⟨n1, n2, n3, n4⟩ := not_tup hT
      rw [n1] at q
      refine s_seq (s_if (b := true) (et_is (et_not (et_B (ev_tuple (ev_var rfl) hd))) (by rw [hT]; rfl)) (fun _ H1 x1 => s_ret ev_c fun H2 x2 => q H2 (x1.trans x2)) fun e => by cases e)
    | true =>
      obtain ⟨a, xs, ds, rfl, rfl, hS, hA⟩ := tup_dp hd hT
      have hl := dps_len hA
      refine s_seq (s_if (b := false) (et_is (et_not (et_B (ev_tuple (ev_var rfl) hd))) rfl) (fun e => by cases e) fun _ H1 x1 => s_next (s_seq ?_))
      have hS1 := ex_t x1 hS
      refine s_if (et_is (et_test (ev_op (ev_lenT (ev_var rfl) hS1) ev_c (rv_eq rfl))) (lenI.trans (by rw [hl]))) (fun e H2 x2 => ?_) fun e H2 x2 => s_next ?_
      · have e2 : ds.length = 2 := by have := of_decide_eq_true e; omega
        obtain ⟨d0, d1, rfl⟩ := two_of e2
        obtain ⟨v0, v1, rfl, h0, h1⟩ := dps2 hA
        have hS2 := ex_t x2 hS1
        have x12 := x1.trans x2
        exact s_ret (ev_andV (ev_eqStr (ev_ix0 (ev_var rfl) hS2) (dp_same x12 _ _ h0) ev_c) fun _ => ev_told (ev_ix1 (ev_var rfl) hS2) (dp_same x12 _ _ h1)) fun H3 x3 => q H3 (x12.trans x3)
      · have e2 := of_decide_eq_false e
        have x12 := x1.trans x2
        have hS2 := ex_t x2 hS1
        by_cases e3 : (ds.length : Int) = 3
        · obtain ⟨d0, d1, d2, rfl⟩ := three_of (show ds.length = 3 by omega)
          obtain ⟨v0, v1, v2, rfl, h0, h1, h2⟩ := dps3 hA
          exact s_ret (ev_andV (a := true) (ev_is (ev_op (ev_lenT (ev_var rfl) hS2) ev_c (rv_eq rfl)) rfl) fun _ => ev_andV (ev_eqStr (ev_ix0 (ev_var rfl) hS2) (dp_same x12 _ _ h0) ev_c) fun _ => ev_andV (ev_told (ev_ix1 (ev_var rfl) hS2) (dp_same x12 _ _ h1)) fun _ => ev_told (ev_ix2 (ev_var rfl) hS2) (dp_same x12 _ _ h2)) fun H3 x3 => q H3 (x12.trans x3)
        · rw [(ch_len e2 e3).1] at q
          refine s_ret (ev_andV (a := false) (b := false) (ev_is (ev_op (ev_lenT (ev_var rfl) hS2) ev_c (rv_eq rfl)) (congrArg V.bl (lenI.trans (by rw [hl]; exact decide_eq_false e3)))) fun e => by cases e) fun H3 x3 => q H3 (x12.trans x3)
theorem dps_getD {H : Hp} {xs : List V} {ds : List PyData} {i : Nat} {x : V} (hA : DpAll K H xs ds) (e : xs[i]? = some x) : Dp K H x (ds.getD i .none) := by
  obtain ⟨dx, h1, h2⟩ := dps_at hA e
  rw [List.getD_eq_getElem?_getD, h1]
  exact h2
theorem map_getD {xs : List V} {ds : List PyData} (hl : xs.length = ds.length) (f : PyData → Bool) : given xs.length (fun _ => true) (fun i => V.bl (f (ds.getD i .none))) = (ds.map f).map V.bl := by
  rw [given_all, hl]
  apply List.ext_getElem
  · simp
  · intro i h1 h2
    simp only [List.length_map] at h2
    simp [List.getD_eq_getElem?_getD, List.getElem?_eq_getElem h2]
abbrev sGr : Stmt := topS 40
theorem scGr : FnScope ["thing", "change"] ["thing"] (defScope sGr) := ⟨rfl, rfl, rfl, by decide +kernel, rfl, by decide +kernel, by decide +kernel⟩
theorem ok_gr {f : Addr} {fd : FuncData} {k : Nat} (F : Fun K "is_group" "is_group" sGr f fd) (N : Names mg) (dC : Own P w K mg base "is_change" ["thing"] k (spTold K isCh)) : FnOk P w K mg base CX0 (k + 1) f fd ["thing"] (spTold K isGr) := by
  refine F.ok scGr (fun vs H Q E h => ?_) (fun cdv A outer s H vs Q E hr h => ?_)
  · obtain ⟨v, d, rfl, _⟩ := h
    rfl
  · obtain ⟨v, d, rfl, hd, q⟩ := h
    obtain ⟨tk, hK⟩ := N.MOST_CHANGES
    refine ⟨_, (pss_cons (ps_if (PW.pt (pw_or (pt_not (pt_val (pe_callB call_isi (by rfl) N.isinstance boot_isinstance (pa_cons (pv 0) (pa_cons (pe_bltn (v := .ty "tuple") (by rfl) N.tuple boot_tuple rfl) pa_nil))))) (pw_or1 (pt_not (pt_chain op_le op_le pe_int (pe_callB call_len_seq (by rfl) N.len PySem.boot_len (pa_cons (pv 0) pa_nil)) (pe_glob (v := .int 6) (by rfl) hK ⟨_, rfl⟩)))))) (pss_one (ps_ret pe_bl)) pss_nil)
      (pss_one (ps_ret (pe_callB (cr_all rfl) (by rfl) N.all boot_all (pa_cons (pe_lc (own := [("change", 1)]) (g := gName 1) rfl scGr.nd (pi_tup (pv 0)) (blkOk_by (N := ["thing", "change"]) (sc := defScope sGr) (by decide +kernel)) (fun _ _ _ _ _ => pg_name (i := 1) scGr.nd rfl (Or.inl rfl)) (fun _ _ _ _ _ => pts_nil) (fun _ _ _ _ _ => (pe_own dC hr (Nat.le_refl _) (by rfl) (pa_cons (pv 1) pa_nil)))) pa_nil))))), ?_⟩
    cases hT : isTup d with
    | false =>
      obtain ⟨n1, n2, n3, n4⟩ := not_tup hT
      rw [n2] at q
      refine s_seq (s_if (b := true) (et_is (et_or (a := true) (b := true) (et_is (et_not (et_B (ev_tuple (ev_var rfl) hd))) (by rw [hT]; rfl)) fun e => by cases e) rfl) (fun _ H1 x1 => s_ret ev_c fun H2 x2 => q H2 (x1.trans x2)) fun e => by cases e)
    | true =>
      obtain ⟨a, xs, ds, rfl, rfl, hS, hA⟩ := tup_dp hd hT
      have hl := dps_len hA
      refine s_seq (s_if (b := !(decide (1 ≤ (ds.length : Int)) && decide ((ds.length : Int) ≤ 6))) (et_is (et_or (a := false) (et_is (et_not (et_B (ev_tuple (ev_var rfl) hd))) rfl) fun _ => et_not (et_test (ev_chain (p := fun i j => decide (i ≤ j)) (p' := fun i j => decide (i ≤ j)) ev_c (ev_lenT (ev_var rfl) hS) ev_c))) (by rw [hl]; rfl)) (fun e H1 x1 => s_ret ev_c fun H2 x2 => ?_) fun e H1 x1 => s_next ?_)
      · have e2 : isGr (.tuple ds) = false := by
          show ((decide (1 ≤ (ds.length : Int)) && decide ((ds.length : Int) ≤ 6)) && ds.all isCh) = false
          cases h : (decide (1 ≤ (ds.length : Int)) && decide ((ds.length : Int) ≤ 6)) with
          | false => rfl
          | true =>
            rw [h] at e
            cases e
        rw [e2] at q
        exact q H2 (x1.trans x2)
      · have h6 : (decide (1 ≤ (ds.length : Int)) && decide ((ds.length : Int) ≤ 6)) = true := by
          cases h : (decide (1 ≤ (ds.length : Int)) && decide ((ds.length : Int) ≤ 6)) with
          | true => rfl
          | false =>
            rw [h] at e
            cases e
        have h7 : ds.length ≤ 6 := by
          rw [Bool.and_eq_true, decide_eq_true_eq, decide_eq_true_eq] at h6
          omega
        have e2 : isGr (.tuple ds) = ds.all isCh := by
          show ((decide (1 ≤ (ds.length : Int)) && decide ((ds.length : Int) ≤ 6)) && ds.all isCh) = _
          rw [h6]
          rfl
        rw [e2] at q
        exact s_ret (ev_is (ev_all (bs := ds.map isCh) (el_is (el_lcT (K := K) (fun _ => true) (fun i => V.bl (isCh (ds.getD i .none))) (ev_var rfl) (ex_t x1 hS) (by omega) (fun x => rfl) (fun i x H1 e hx => et_yes) fun i x H2 e hx _ => ev_told (ev_var rfl) (dp_same (x1.trans e) _ _ (dps_getD hA hx))) (map_getD hl isCh))) (by rw [List.all_map]; rfl)) fun H2 x2 => q H2 (x1.trans x2)
end
/-- the entries from place lo up to place hi, done -/
def spCarryM (K : PySem.W.Frag) : Sp := fun vs H Q _ => ∃ (D l : Addr) (ks : List Int) (kvs : List (Key × V)) (f : Int → Option Int) (ds : List PyData) (lo hi : Nat), vs = [.ref D, .ref l, .int (lo : Int), .int (hi : Int)] ∧ H D = some (.dK kvs) ∧ DI ks kvs f ∧ ks.length ≤ 1000 ∧ LogAt K H l ks ds ∧ lo ≤ hi ∧
  ∀ kvs' H', Bar D H H' → H' D = some (.dK kvs') → DI ks kvs' (appl f (lgD ((ds.drop lo).take (hi - lo)))) → Q .non H'
section
variable {P : Program} {w : World} {K : PySem.W.Frag} {mg : Str → Option Value} {base : Heap}
abbrev sCo : Stmt := topS 42
theorem scCo : FnScope ["entry"] ["entry"] (defScope sCo) := ⟨rfl, rfl, rfl, by decide +kernel, rfl, by decide +kernel, by decide +kernel⟩
theorem ok_chsOf {f : Addr} {fd : FuncData} {k : Nat} (F : Fun K "changes_of" "changes_of" sCo f fd) (N : Names mg) : FnOk P w K mg base CX0 (k + 1) f fd ["entry"] (spChsOf K) := by
  refine F.ok scCo (fun vs H Q E h => ?_) (fun cdv A outer s H vs Q E hr h => ?_)
  · obtain ⟨v, d, ks, rfl, _⟩ := h
    rfl
  · obtain ⟨v, d, ks, rfl, hd, hg, q⟩ := h
    refine ⟨_, (pss_one (ps_ret (pe_ifExp (pt_cmpR op_eq (pe_ix ix_tup (pv 0) pe_int (fun _ _ => rfl)) pe_str (nomark _)) (pe_ix ix_tup (pv 0) pe_int (fun _ _ => rfl)) (pe_tup pa_nil)))), ?_⟩
    rcases en_kind hg with ⟨cs, rfl, _⟩ | ⟨s, i, j, rfl, hs⟩
    · obtain ⟨a, x0, x1, rfl, ht, h0, h1⟩ := dpt2 hd
      cases h0
      cases h1 with
      | tup hq hc =>
        refine s_ret (ev_if (b := true) (et_is (et_test (ev_op (ev_ix0 (ev_var rfl) ht) ev_c (rv_eq rfl))) (by simp)) (fun _ => ev_ix1 (ev_var rfl) ht) fun e => by cases e) fun H1 x1 => q _ _ H1 x1 (Evl.ex_t x1 hq) (dps_same x1 _ _ hc)
    · obtain ⟨a, x0, x1, x2, rfl, ht, h0, h1, h2⟩ := dpt3 hd
      cases h0
      refine (et_is (et_test (ev_op (ev_ix0 (ev_var rfl) ht) ev_c (rv_eq rfl))) (b := false) (by simp [hs])) H (Ex.refl H) _ fun H1 x1 => ?_
      rw [if_neg (by decide)]
      exact ⟨sz_of (by simp), fun p hp => q p [] _ (x1.trans (Ex.new hp)) (st_of upd_same) .nil⟩
abbrev sCa : Stmt := topS 43
theorem scCa : FnScope ["rows", "log", "low", "high", "entry", "change", "key"] ["rows", "log", "low", "high"] (defScope sCa) := ⟨rfl, rfl, rfl, by decide +kernel, rfl, by decide +kernel, by decide +kernel⟩
theorem ok_carry {f : Addr} {fd : FuncData} {kC k : Nat} (F : Fun K "carry" "carry" sCa f fd) (N : Names mg) (dC : Own P w K mg base "changes_of" ["entry"] kC (spChsOf K)) (hC : kC ≤ k) : FnOk P w K mg base CX0 (k + 1) f fd ["rows", "log", "low", "high"] (spCarryM K) := by
  refine F.ok scCa (fun vs H Q E h => ?_) (fun cdv A outer s H vs Q E hr h => ?_)
  · obtain ⟨D, l, ks, kvs, f, ds, lo, hi, rfl, _⟩ := h
    rfl
  · obtain ⟨D, l, ks, kvs, f, ds, lo, hi, rfl, hD, di, hk, hl, h1, q⟩ := h
    refine ⟨_, pss_one (ps_for PassesOwn.never rfl (pi_list (pe_slice sl_list (pv 1) (po_some (pv 2)) (po_some (pv 3)))) (pg_name (i := 4) scCa.nd rfl (.inl rfl)) (pss_one (ps_for PassesOwn.never rfl (pi_tup (pe_own dC hr hC (by rfl) (pa_cons (pv 4) pa_nil))) (pg_name (i := 5) scCa.nd rfl (.inl rfl)) (pss_cons (ps_set (i := 6) scCa.nd rfl (.inl rfl) (pe_ix ix_tup (pv 5) pe_int (fun _ _ => rfl)))
      (pss_one (ps_if (pt_cmpR op_eq (pe_ix ix_tup (pv 5) pe_int (fun _ _ => rfl)) pe_str (nomark _)) (pss_one (ps_dput (hu_of hr) (pv 0) (pv 6) (pe_ix ix_tup (pv 5) pe_int (fun _ _ => rfl)) rfl)) (pss_one (ps_if (pt_cmp (pc_din (hu_of hr) (pv 6) (pv 0))) (pss_one (ps_ddel (pv 0) (pv 6))) pss_nil)))))))), ?_⟩
    obtain ⟨us, hs, hA⟩ := hl.ex
    have hlen := dps_len hA
    have hcut := dps_cutN hA lo (hi - lo)
    generalize hcs : (us.drop lo).take (hi - lo) = cs at hcut
    generalize hes : (ds.drop lo).take (hi - lo) = es at hcut q
    have hge : ∀ d ∈ es, goodEn ks d = true := fun d m => hl.good d (List.mem_of_mem_drop (List.mem_of_mem_take (hes ▸ m)))
    have hcl := dps_len hcut
    refine s_forNL (K := K) (xs := cs) (by
      rw [← hcs, ← cut_nat us lo hi h1]
      exact el_sl (ev_var rfl) (eo_some (ev_var rfl)) (eo_some (ev_var rfl)) hs) (fun p i σ' H' => ∃ y4 y5 y6 kvs', σ' = [some (.ref D), some (.ref l), some (.int lo), some (.int hi), y4, y5, y6] ∧ H p = none ∧ H' p = some (.lst cs) ∧ Bar D H H' ∧ H' D = some (.dK kvs') ∧ DI ks kvs' (appl f (lgD (es.take i)))) ?_ ?_ ?_ ?_
    · exact fun p H1 hp x1 hp1 => ⟨none, none, none, kvs, rfl, hp, hp1, Bar.ex x1, x1 D _ hD, di⟩
    · rintro p i σ' H' _ ⟨y4, y5, y6, kvs', _, _, hp, _⟩
      exact sq_of hp
    · rintro p i x σ' H' hx ⟨y4, y5, y6, kvs', rfl, hp, hp', hb, hD', di'⟩
      have hpD : p ≠ D := fun z => by
        subst z
        rw [hD] at hp
        cases hp
      obtain ⟨d, hd, hxd⟩ := dps_at (dps_bar hD hb _ _ hcut) hx
      have hgd := hge d (List.mem_of_getElem? hd)
      have hi' : i < es.length := (List.getElem?_eq_some_iff.mp hd).1
      have htk : es.take (i + 1) = es.take i ++ [d] := by
        rw [List.take_succ, hd]
        rfl
      refine g_name ?_
      dsimp only
      refine ⟨x, rfl, x, d, ks, rfl, hxd, hgd, fun a vs H1 x1 ha hvs => ⟨a, rfl, ⟨vs, ha⟩, ?_⟩⟩
      have hgc : ∀ c ∈ chsD d, goodCh ks c = true := by
        rcases en_kind hgd with ⟨cs, rfl, h⟩ | ⟨s, i, j, rfl, _⟩
        · exact h
        · exact fun c m => by cases m
      refine for_tup (K := K) (a := a) (xs := vs) (fun j σ2 H2 => ∃ y5 y6 kvs2, σ2 = [some (.ref D), some (.ref l), some (.int lo), some (.int hi), some x, y5, y6] ∧ Bar D H1 H2 ∧ H2 D = some (.dK kvs2) ∧ DI ks kvs2 (appl (appl f (lgD (es.take i))) (((chsD d).map chD).take j))) ⟨y5, y6, kvs', rfl, Bar.refl D H1, x1 D _ hD', di'⟩ ?_ ?_ ?_
      · rintro j σ2 H2 _ ⟨_, _, _, _, b2, _⟩
        exact bar_t (x1 D _ hD') b2 ha
      · rintro j y σ2 H2 hy ⟨z5, z6, kvs2, rfl, b2, hD2, di2⟩
        obtain ⟨c, hc, hyc⟩ := dps_at (dps_bar (x1 D _ hD') b2 _ _ hvs) hy
        have hj : ((chsD d).map chD).take (j + 1) = ((chsD d).map chD).take j ++ [chD c] := by
          rw [List.take_succ, List.getElem?_map, hc]
          rfl
        rw [hj, appl_app]
        have h64 : kvs2.length < sizeLine := sz_lt (by have := di2.len; omega)
        rcases ch_kind (hgc c (List.mem_of_getElem? hc)) with ⟨kk, rfl, mk⟩ | ⟨kk, zz, rfl, mk⟩
        · obtain ⟨pa, u0, u1, rfl, ht, h0, h1⟩ := dpt2 hyc
          cases h0
          cases h1
          refine g_name (s_seq (s_asg (ev_ix1 (ev_var rfl) ht) fun H3 x3 => ?_))
          refine s_if (b := false) (et_is (et_test (ev_op (ev_ix0 (ev_var rfl) (Evl.ex_t x3 ht)) ev_c (rv_eq rfl))) (by decide)) (fun e => by cases e) fun _ H4 x4 => ?_
          have hD4 : H4 D = some (.dK kvs2) := x4 D _ (x3 D _ hD2)
          have b4 : Bar D H1 H4 := b2.trans (Bar.ex (x3.trans x4))
          refine ⟨.int kk, rfl, .ref D, rfl, D, _, rfl, DGet.k (k := .inl kk) hD4, _, rfl, ?_⟩
          cases e : valV kvs2 (Sum.inl kk) with
          | none =>
            have : appl (appl f (lgD (es.take i))) (((chsD d).map chD).take j) kk = none := by
              have := di2.val kk
              rw [e] at this
              exact Option.map_eq_none_iff.mp this.symm
            exact ⟨_, _, kvs2, rfl, b4, hD4, di2.gone this⟩
          | some v =>
            exact ⟨.ref D, rfl, .int kk, rfl, D, kvs2, .inl kk, rfl, hD4, rfl, by rw [e]; rfl, _, _, _, rfl, b4.put, upd_same, di2.drop⟩
        · obtain ⟨pa, u0, u1, u2, rfl, ht, h0, h1, h2⟩ := dpt3 hyc
          cases h0
          cases h1
          cases h2
          refine g_name (s_seq (s_asg (ev_ix1 (ev_var rfl) ht) fun H3 x3 => ?_))
          refine s_if (b := true) (et_is (et_test (ev_op (ev_ix0 (ev_var rfl) (Evl.ex_t x3 ht)) ev_c (rv_eq rfl))) (by decide)) (fun _ H4 x4 => ?_) fun e => by cases e
          have hD4 : H4 D = some (.dK kvs2) := x4 D _ (x3 D _ hD2)
          have b4 : Bar D H1 H4 := b2.trans (Bar.ex (x3.trans x4))
          refine ev_ix2 (ev_var rfl) (Evl.ex_t (x3.trans x4) ht) H4 (Ex.refl H4) _ fun H5 x5 => ⟨.ref D, rfl, .int kk, rfl, D, _, rfl, DPut.k (k := .inl kk) (x5 D _ hD4) h64, ?_⟩
          exact ⟨_, _, _, rfl, (b4.trans (Bar.ex x5)).put, upd_same, di2.put mk⟩
      · rintro σ2 H2 ⟨z5, z6, kvs2, rfl, b2, hD2, di2⟩
        refine ⟨some x, z5, z6, kvs2, rfl, hp, b2 p _ hpD (x1 p _ hp'), hb.trans ((Bar.ex x1).trans b2), hD2, ?_⟩
        rw [htk, lgD_snoc, appl_app]
        rw [dps_len hvs, ← List.length_map (f := chD), List.take_length] at di2
        exact di2
    · rintro p σ' H' ⟨y4, y5, y6, kvs', rfl, _, _, hb, hD', di'⟩
      rw [hcl, List.take_length] at di'
      exact q kvs' H' hb hD' di'
end
end K18
namespace K18
open PySem L2 PyProof.Rows Tc Evl
abbrev sRi : Stmt := topS 45
theorem scRi : FnScope ["rows", "key"] ["rows"] (defScope sRi) := ⟨rfl, rfl, rfl, by decide +kernel, rfl, by decide +kernel, by decide +kernel⟩
/-- the rows of a dict, by keys -/
def spRising (K : PySem.W.Frag) : Sp := fun vs H Q _ => ∃ (D : Addr) (ks : List Int) (kvs : List (Key × V)) (f : Int → Option Int), vs = [.ref D] ∧ H D = some (.dK kvs) ∧ DI ks kvs f ∧ ks.length ≤ 1000 ∧
  ∀ p js H', H p = none → Ex H H' → KeysOf f js → (∀ j ∈ js, j ∈ ks) → TP K H' p (rowsOf f js) → Q (.ref p) H'
theorem fRows_in {rws : List (Int × Int)} {k : Int} (h : (fRows rws k).isSome = true) : ∃ r ∈ rws, r.1 = k := by
  have g : ∀ (cs : List (Int × Option Int)) (f : Int → Option Int), (appl f cs k).isSome = true → (f k).isSome = true ∨ ∃ c ∈ cs, c.1 = k := by
    intro cs
    induction cs with
    | nil => exact fun f z => .inl z
    | cons c cs ih =>
      intro f z
      rcases ih _ z with z | ⟨c', m, e⟩
      · unfold fset at z
        by_cases e : k = c.1
        · exact .inr ⟨c, List.mem_cons_self, e.symm⟩
        · dsimp only at z
          rw [if_neg e] at z
          exact .inl z
      · exact .inr ⟨c', List.mem_cons_of_mem _ m, e⟩
  rcases g _ _ h with z | ⟨c, m, e⟩
  · cases z
  · obtain ⟨r, hr, rfl⟩ := List.mem_map.mp m
    exact ⟨r, hr, e⟩
theorem fRows_out {rws : List (Int × Int)} {k : Int} (h : ∀ r ∈ rws, r.1 ≠ k) : fRows rws k = none := by
  cases e : fRows rws k with
  | none => rfl
  | some z =>
    obtain ⟨r, hr, er⟩ := fRows_in (rws := rws) (k := k) (by rw [e]; rfl)
    exact absurd er (h r hr)
theorem fRows_cons (r : Int × Int) (rws : List (Int × Int)) (k : Int) (hk : k ≠ r.1) : fRows (r :: rws) k = fRows rws k := by
  unfold fRows
  rw [List.map_cons]
  show appl (fset (fun _ => none) r.1 (some r.2)) _ k = _
  exact appl_in _ _ _ _ (.inr (if_neg hk))
theorem fRows_head {r : Int × Int} {rws : List (Int × Int)} (h : ∀ s ∈ rws, s.1 ≠ r.1) : fRows (r :: rws) r.1 = some r.2 := by
  unfold fRows
  rw [List.map_cons]
  show appl (fset (fun _ => none) r.1 (some r.2)) _ r.1 = _
  rw [appl_out _ _ _ fun c m => by
    obtain ⟨s, hs, rfl⟩ := List.mem_map.mp m
    exact h s hs]
  exact if_pos rfl
theorem appl_at {rs : List (Int × Int)} {g : Int → Option Int} {k : Int} (h : ∀ z, (k, z) ∉ rs) : appl g (rs.map fun r => (r.1, some r.2)) k = g k := by
  induction rs generalizing g with
  | nil => rfl
  | cons r rs ih =>
    show appl (fset g r.1 (some r.2)) (rs.map fun r => (r.1, some r.2)) k = _
    rw [ih fun z m => h z (List.mem_cons_of_mem _ m)]
    unfold fset
    rw [if_neg fun e => h r.2 (by rw [e]; exact List.mem_cons_self)]
theorem applR_in {rs : List (Int × Int)} {g : Int → Option Int} {k z : Int} (up : rs.Pairwise fun x y => x.1 < y.1) (h : (k, z) ∈ rs) : appl g (rs.map fun r => (r.1, some r.2)) k = some z := by
  induction rs generalizing g with
  | nil => cases h
  | cons r rs ih =>
    obtain ⟨p1, p2⟩ := List.pairwise_cons.mp up
    show appl (fset g r.1 (some r.2)) (rs.map fun r => (r.1, some r.2)) k = _
    rcases List.mem_cons.mp h with e | mr
    · subst e
      rw [appl_at fun z' m' => by
        have := p1 _ m'
        simp at this]
      unfold fset
      rw [if_pos rfl]
    · exact ih p2 mr
theorem fRows_mem {rs : List (Int × Int)} {k z : Int} (up : rs.Pairwise fun x y => x.1 < y.1) : fRows rs k = some z ↔ (k, z) ∈ rs := by
  constructor
  · intro h
    obtain ⟨r, m, e⟩ := fRows_in (rws := rs) (k := k) (by rw [h]; rfl)
    have := applR_in (g := fun _ => none) up (show (k, r.2) ∈ rs by rw [← e]; exact m)
    unfold fRows at h
    rw [h] at this
    rw [Option.some.inj this, ← e]
    exact m
  · exact fun m => applR_in up m
/-- rows of a table -/
structure RsOk (rs : List (Int × Int)) : Prop where
  up : rs.Pairwise fun x y => x.1 < y.1
  inn : ∀ r ∈ rs, 0 ≤ r.1 ∧ r.1 < 1000 ∧ 0 ≤ r.2 ∧ r.2 < 1000
  few : rs.length ≤ 100
theorem rows_of : ∀ (ds : List PyData) (l : Int), rising l ds = true → ∃ rs : List (Int × Int), ds = rs.map Tc.pairD ∧ (rs.Pairwise fun x y => x.1 < y.1) ∧ ∀ r ∈ rs, l ≤ r.1 ∧ 0 ≤ r.1 ∧ r.1 < 1000 ∧ 0 ≤ r.2 ∧ r.2 < 1000
  | [], _, _ => ⟨[], rfl, .nil, fun r m => (by cases m)⟩
  | d :: ds, l, h => by
    rw [rising, Bool.and_eq_true, Bool.and_eq_true, decide_eq_true_eq] at h
    obtain ⟨⟨h1, h2⟩, h3⟩ := h
    obtain ⟨rs, rfl, up, inn⟩ := rows_of ds _ h3
    obtain ⟨k, z, rfl, hk⟩ : ∃ k z : Int, d = Tc.pairD (k, z) ∧ 0 ≤ k ∧ k < 1000 ∧ 0 ≤ z ∧ z < 1000 := by
      cases d with
      | tuple es =>
        obtain ⟨d0, d1, rfl, k0, k1⟩ := row_two h1
        cases d0 with
        | int k =>
          cases d1 with
          | int z =>
            have p0 : (decide (0 ≤ k) && decide (k < 1000)) = true := k0
            have p1 : (decide (0 ≤ z) && decide (z < 1000)) = true := k1
            rw [Bool.and_eq_true, decide_eq_true_eq, decide_eq_true_eq] at p0 p1
            exact ⟨k, z, rfl, p0.1, p0.2, p1.1, p1.2⟩
          | _ => cases k1
        | _ => cases k0
      | _ => cases h1
    have kk : keyOf (Tc.pairD (k, z)) = k := rfl
    rw [kk] at h2 inn
    refine ⟨(k, z) :: rs, rfl, List.pairwise_cons.mpr ⟨fun r m => ?_, up⟩, fun r m => ?_⟩
    · have := (inn r m).1
      show k < r.1
      omega
    · rcases List.mem_cons.mp m with rfl | m
      · exact ⟨h2, hk.1, hk.2.1, hk.2.2.1, hk.2.2.2⟩
      · have := inn r m
        exact ⟨by omega, this.2⟩
theorem table_rs {d : PyData} (h : isTable d = true) : ∃ rs, d = rowsD rs ∧ RsOk rs := by
  cases d with
  | tuple ds =>
    have h' : (decide (ds.length ≤ 100) && rising 0 ds) = true := h
    rw [Bool.and_eq_true, decide_eq_true_eq] at h'
    obtain ⟨rs, rfl, up, inn⟩ := rows_of ds 0 h'.2
    exact ⟨rs, rfl, up, fun r m => (inn r m).2, by have := h'.1; rw [List.length_map] at this; exact this⟩
  | _ => cases h
/-- the rows of what rows make are the rows -/
theorem rows_back {rs : List (Int × Int)} {js : List Int} (up : rs.Pairwise fun x y => x.1 < y.1) (h : KeysOf (fRows rs) js) : rowsOf (fRows rs) js = rs := by
  have e : js = rs.map (·.1) := KeysOf.one h ⟨List.pairwise_map.mpr up, fun k => by
    rw [List.mem_map, Option.isSome_iff_exists]
    constructor
    · rintro ⟨r, m, rfl⟩
      exact ⟨r.2, (fRows_mem up).mpr m⟩
    · rintro ⟨z, e⟩
      exact ⟨(k, z), (fRows_mem up).mp e, rfl⟩⟩
  subst e
  unfold rowsOf
  rw [List.map_map]
  conv => rhs; rw [← List.map_id rs]
  refine List.map_congr_left fun r m => ?_
  show (r.1, (fRows rs r.1).getD 0) = r
  rw [(fRows_mem up).mpr m]
  rfl
abbrev sHouse : Stmt := topS 55
abbrev mInit : Stmt := inClass sHouse 0
theorem smInit : FnScope ["self", "table", "key", "worth"] ["self", "table"] (defScope mInit) := ⟨rfl, rfl, rfl, by decide +kernel, rfl, by decide +kernel, by decide +kernel⟩
/-- House(..) -/
def spHInit (K : PySem.W.Frag) (C CT : Addr) : Sp := fun vs H Q E => ∃ (p dx : Addr) (v : V) (d : PyData), vs = [.ref p, v] ∧ H p = some (.ins C dx []) ∧ Dp K H v d ∧
  (isTable d = false → ∀ H', Ex H H' → E (.ref CT) none H') ∧
  (∀ (rs : List (Int × Int)) (dW dK dL dR : Addr) (kvs : List (Key × V)) (H' : Hp), d = rowsD rs → isTable d = true → RsOk rs → (∀ a o, a ≠ p → H a = some o → H' a = some o) → HsAt C H' p dW dK dL dR kvs [] 0 0 0 [] [] → DI allKs kvs (fRows rs) → (H dW = none ∧ H dK = none ∧ H dL = none ∧ H dR = none) → Q .non H')
section
variable {P : Program} {w : World} {K : PySem.W.Frag} {mg : Str → Option Value} {base : Heap}
theorem take_rows (rs : List (Int × Int)) {i : Nat} {r : Int × Int} (h : rs[i]? = some r) : rs.take (i + 1) = rs.take i ++ [r] := by
  rw [List.take_succ, h]
  rfl
theorem ok_rising {f : Addr} {fd : FuncData} {k : Nat} (F : Fun K "rising" "rising" sRi f fd) (N : Names mg) : FnOk P w K mg base CX0 (k + 1) f fd ["rows"] (spRising K) := by
  refine F.ok scRi (fun vs H Q E h => ?_) (fun cdv A outer s H vs Q E hr h => ?_)
  · obtain ⟨D, ks, kvs, f, rfl, _⟩ := h
    rfl
  · obtain ⟨D, ks, kvs, f, rfl, hD2, di, h64, q⟩ := h
    refine ⟨_, pss_one (ps_ret (pe_callTy cr_tupP (by rfl) N.tuple boot_tuple (pa_cons (pe_lc (own := [("key", 1)]) (g := gName 1) (tt := tYes) (te := tTup (tCons (tVar 1) (tCons (tDGet (tVar 0) (tVar 1)) tNil))) rfl scRi.nd (pi_list (pe_callB (cr_sortedDA rfl) (by rfl) N.sorted boot_sorted (pa_cons (pv 0) pa_nil))) (blkOk_by (N := ["rows", "key"]) (sc := defScope sRi) (by decide +kernel)) (fun _ _ _ _ _ => pg_name (i := 1) scRi.nd rfl (Or.inl rfl)) (fun _ _ _ _ _ => pts_nil) (fun _ _ _ _ _ => (pe_tup (pa_cons (pv 1) (pa_cons (pe_dget (hu_of hr) (pv 0) (pv 1) (fun _ _ => rfl)) pa_nil))))) pa_nil))), ?_⟩
    obtain ⟨js0, hks, nd, mem, hlen⟩ := di.keys
    refine ⟨.ref D, rfl, D, kvs, js0, rfl, .inl hD2, hks, fun ys p pm pw hp => ⟨p, rfl, ⟨_, sq_of upd_same⟩, fun D2 hD3 => ?_⟩⟩
    have ndy : ys.Nodup := pm.nodup_iff.mpr nd
    have kf : KeysOf f ys := ⟨lt_of_le_nodup pw ndy, fun k => (pm.mem_iff).trans (mem k)⟩
    have x3 : Ex H (upd H p (.lst (ys.map V.int))) := Ex.new hp
    generalize hH3 : upd H p (.lst (ys.map V.int)) = H3 at x3 hD3
    have hp3 : H3 p = some (.lst (ys.map V.int)) := by rw [← hH3]; exact upd_same
    refine lc_list (K := K) (a := p) (xs := ys.map V.int) (fun i H' => ∃ vs, Ex H3 H' ∧ H' D2 = some (.lst vs) ∧ vs.length = i ∧ DpAll K (hid D2 H') vs ((rowsOf f (ys.take i)).map Tc.pairD)) ⟨[], Ex.new hD3, upd_same, rfl, .nil⟩ (fun i H' _ h => ?_) (fun i x H' hx h => ⟨rfl, ?_⟩) (fun H' h => ?_)
    · obtain ⟨vs, x4, _⟩ := h
      exact sq_of (x4 p _ hp3)
    · obtain ⟨vs, x4, h4, hvl, hv⟩ := h
      rw [List.getElem?_map] at hx
      obtain ⟨kk, hkk, rfl⟩ := Option.map_eq_some_iff.mp hx
      have hm := (kf.2 kk).mp (List.mem_of_getElem? hkk)
      obtain ⟨ww, hww⟩ := Option.isSome_iff_exists.mp hm
      have hval : valV kvs (.inl kk) = some (.int ww) := by rw [di.val, hww]; rfl
      have hi : i < ys.length := (List.getElem?_eq_some_iff.mp hkk).1
      have hyl : ys.length = js0.length := pm.length_eq
      refine iteT (B := ∃ vs, Ex H3 H' ∧ H' D2 = some (.lst vs) ∧ vs.length = i + 1 ∧ DpAll K (hid D2 H') vs ((rowsOf f (ys.take (i + 1))).map Tc.pairD)) ?_
      refine ⟨.int kk, rfl, .ref D, rfl, .int kk, rfl, D, .int ww, rfl, by rw [← hval]; exact DGet.k (k := .inl kk) (x4 D _ (x3 D _ hD2)), sz_of (by simp), fun t ht => ?_⟩
      have htD : t ≠ D2 := fun z => by
        subst z
        rw [h4] at ht
        cases ht
      have x5 : Ex H' (upd H' t (.tup [.int kk, .int ww])) := Ex.new ht
      refine ⟨vs, x5 D2 _ h4, sz_lt (by omega), vs ++ [.ref t], (x4.trans x5).mut hD3, upd_same, by simp [hvl], ?_⟩
      rw [hid_upd, List.take_succ, hkk]
      unfold rowsOf
      rw [List.map_append, List.map_append]
      refine dps_app (dps_same (ex_hid x5) _ _ hv) (.cons ?_ .nil)
      show Dp K _ (.ref t) (.tuple [.int kk, .int ((f kk).getD 0)])
      rw [hww]
      exact .tup (st_of (hid_at upd_same htD)) (.cons (.int kk) (.cons (.int ww) .nil))
    · obtain ⟨vs, x4, h4, _, hv⟩ := h
      rw [List.length_map, List.take_length] at hv
      refine ⟨D2, vs, rfl, sq_of h4, fun t o ht od => ?_⟩
      have xA : Ex H (upd H' t (.frz o (.tup vs))) := (x3.trans x4).trans (Ex.new ht)
      have tn : H t = none := by
        cases e : H t with
        | none => rfl
        | some u =>
          have := ((x3.trans x4) t u e).symm.trans ht
          cases this
      refine q t ys _ tn xA kf (fun j m => ?_) ⟨vs, ⟨o, upd_same, od⟩, dps_same (Ex.new ht) _ _ (dps_same (hid_same D2 H') _ _ hv)⟩
      have := (kf.2 j).mp m
      rw [← (mem j)] at this
      have h2 : (Sum.inl j : Key) ∈ kvs.map (·.1) := hks ▸ List.mem_map.mpr ⟨j, this, rfl⟩
      obtain ⟨pp, hp1, hp2⟩ := List.mem_map.mp h2
      obtain ⟨kk, hk1, hk2⟩ := di.inn pp hp1
      cases (hp2.symm.trans hk2 : (Sum.inl j : Key) = Sum.inl kk)
      exact hk1
set_option maxHeartbeats 1000000 in
theorem ok_hinit {f C CT e0 : Addr} {fd : FuncData} {bm : List Value} {kI k : Nat} (F : FunD K "__init__" "House.__init__" (defArgs mInit) (defBody mInit) (defScope mInit) [.ref e0] [] f fd) (T : HTx K mg C) (F0 : ExcBaseFacts "ValueError" "ValueError.__new__" "ValueError.__init__" bm) (dE : OwnE0 K mg "NoTable" CT bm) (dI : Own P w K mg base "is_table" ["thing"] kI (spTold K isTable)) (hI : kI ≤ k) :
    FnOk P w K mg base (L2N.CX P w) (k + 1) f fd ["self", "table"] (spHInit K C CT) := by
  refine F.ok (CX := L2N.CX P w) smInit (fun vs H Q E h => ?_) (fun cdv A outer s H vs Q E hr h => ?_)
  · obtain ⟨p, dx, v, d, rfl, _⟩ := h
    rfl
  · obtain ⟨p, dx, v, d, rfl, hp, hd, q1, q2⟩ := h
    refine ⟨_, (pss_cons (ps_if (pt_not (pt_val (pe_own dI hr hI (by rfl) (pa_cons (pv 1) pa_nil)))) (pss_one (ps_raise0 F0 dE rfl (L2N.takes_of rfl rfl rfl rfl) (by rfl))) pss_nil)
      (pss_cons (ps_fld (pv 0) (pe_dc (own := [("key", 2), ("worth", 3)]) (g := gTup K 2 (gCons (gName 2) (gCons (gName 3) gNil))) (tt := tYes) (tk := tVar 2) (tv := tVar 3) rfl smInit.nd (pi_tup (pv 1)) (blkOk_by (N := ["self", "table", "key", "worth"]) (sc := defScope mInit) (by decide +kernel)) (fun _ _ _ _ _ => pg_tup rfl (pgs_cons (pg_name (i := 2) smInit.nd rfl (Or.inl rfl)) (pgs_cons (pg_name (i := 3) smInit.nd rfl (Or.inl rfl)) pgs_nil))) (fun _ _ _ _ _ => pts_nil) (fun _ _ _ _ _ => pv 2) (fun _ _ _ _ _ => pv 3)) rfl)
      (pss_cons (ps_fld (pv 0) (pe_lst pa_nil) rfl)
      (pss_cons (ps_fld (pv 0) pe_int rfl)
      (pss_cons (ps_fld (pv 0) pe_int rfl)
      (pss_cons (ps_fld (pv 0) pe_int rfl)
      (pss_cons (ps_fld (pv 0) pe_dnewK rfl)
      (pss_one (ps_fld (pv 0) pe_dnewK rfl))))))))), ?_⟩
    refine s_seq (s_if (b := !isTable d) (et_not (et_B (ev_told (ev_var rfl) hd))) (fun z H1 x1 => ?_) fun z H1 x1 => s_next ?_)
    · exact q1 (by cases e : isTable d with | true => rw [e] at z; cases z | false => rfl) H1 x1
    have ht : isTable d = true := by cases e : isTable d with | true => rfl | false => rw [e] at z; cases z
    obtain ⟨rs, rfl, ok⟩ := table_rs ht
    have I1 := (Ini.start hp).ex x1
    have hd1 := dp_same x1 _ _ hd
    obtain ⟨a, xs, rfl, hs, hA⟩ : ∃ a xs, v = .ref a ∧ SqT K H1 a xs ∧ DpAll K H1 xs (rs.map Tc.pairD) := by
      cases hd1 with
      | tup hs hA => exact ⟨_, _, rfl, hs, hA⟩
    have hlen : xs.length = rs.length := by rw [dps_len hA, List.length_map]
    have n0 : ([] : List (Str × V)).length ≤ 0 := Nat.le_refl _
    dsimp only
    have mkD : ∀ Q' : VK, (∀ D kvs H', H1 D = none → Ex H1 H' → H' D = some (.dK kvs) → DI allKs kvs (fRows rs) → Q' (.ref D) H') → tDc (iTup K (tVar 1)) (gTup K 2 (gCons (gName 2) (gCons (gName 3) gNil))) tYes (tVar 2) (tVar 3) [2, 3] (start ["self", "table", "key", "worth"] [.ref p, .ref a]) H1 Q' := fun Q' q' => by
      refine ⟨.ref a, rfl, a, rfl, ⟨xs, hs⟩, fun D hD => ?_⟩
      have x0 : Ex H1 (upd H1 D (.dK [])) := Ex.new hD
      refine dc_tup (K := K) (xs := xs) (fun i H' => ∃ kvs, Bar D (upd H1 D (.dK [])) H' ∧ H' D = some (.dK kvs) ∧ DI allKs kvs (fRows (rs.take i))) ⟨[], Bar.refl D _, upd_same, DI.nil⟩ (fun i H' _ h => ?_) (fun i x H' hx h => ?_) (fun H' h => ?_)
      · obtain ⟨kvs, b, _, _⟩ := h
        exact bar_t (kvs := []) upd_same b (Evl.ex_t x0 hs)
      · obtain ⟨kvs, b, hD', di⟩ := h
        obtain ⟨d, hd, hxd⟩ := dps_at (dps_bar (kvs := []) upd_same b _ _ (dps_same x0 _ _ hA)) hx
        rw [List.getElem?_map] at hd
        obtain ⟨r, hr', rfl⟩ := Option.map_eq_some_iff.mp hd
        obtain ⟨pa, u0, u1, rfl, ht, h0, h1⟩ := dpt2 hxd
        cases h0
        cases h1
        refine ⟨pa, _, rfl, ht, rfl, _, _, rfl, _, _, rfl, rfl, rfl, ?_⟩
        refine iteT (B := ∃ kvs, Bar D (upd H1 D (.dK [])) H' ∧ H' D = some (.dK kvs) ∧ DI allKs kvs (fRows (rs.take (i + 1)))) ⟨_, rfl, _, rfl, kvs, .inl r.1, rfl, hD', sz_lt (by have := di.len; rw [allKs_len] at this; omega), putK kvs (.inl r.1) (.int r.2), b.put, upd_same, ?_⟩
        rw [take_rows rs hr']
        unfold fRows
        rw [List.map_append, appl_app]
        have := ok.inn r (List.mem_of_getElem? hr')
        exact di.put (allKs_mem this.1 this.2.1)
      · obtain ⟨kvs, b, hD', di⟩ := h
        rw [hlen, List.take_length] at di
        exact q' D kvs H' hD (b.exOf x0 hD) hD' di
    refine s_seq (mkD _ fun dW kvs H2 nW x2 hW di => ?_)
    have I2 := I1.new nW x2 hW
    refine ⟨.ref p, rfl, p, C, dx, [], rfl, I2.ob, T.cl, T.aW, by show 0 < 1000; decide, ?_⟩
    have I3 := I2.fld (putF "worths" (.ref dW) [])
    have n1 : (putF "worths" (.ref dW) []).length ≤ 1 := putF_le n0
    generalize upd H2 p (.ins C dx (putF "worths" (.ref dW) [])) = H3 at I3
    dsimp only
    refine s_seq (ini_g I3 (fun Q' q' => new_l q') rfl T.cl T.aK (by omega) fun dK H4 I4 => ?_)
    have n2 := putF_le (f := "kept") (v := .ref dK) n1
    dsimp only
    refine s_seq (ini_c I4 ev_c rfl T.cl T.aF (by omega) fun H5 I5 => ?_)
    have n3 := putF_le (f := "first_kept") (v := .int 0) n2
    dsimp only
    refine s_seq (ini_c I5 ev_c rfl T.cl T.aG (by omega) fun H6 I6 => ?_)
    have n4 := putF_le (f := "lives_given") (v := .int 0) n3
    dsimp only
    refine s_seq (ini_c I6 ev_c rfl T.cl T.aB (by omega) fun H7 I7 => ?_)
    have n5 := putF_le (f := "begun") (v := .int 0) n4
    dsimp only
    refine s_seq (ini_g I7 (fun Q' q' => new_d q') rfl T.cl T.aL (by omega) fun dL H8 I8 => ?_)
    have n6 := putF_le (f := "living") (v := .ref dL) n5
    dsimp only
    refine ini_g I8 (fun Q' q' => new_d q') rfl T.cl T.aR (by omega) fun dR H9 I9 => ?_
    have ob := I9.ob
    rw [hfl_made] at ob
    have nd := I9.nd
    simp only [List.map_cons, List.map_nil, List.nodup_cons, List.mem_cons, List.not_mem_nil, or_false, not_or] at nd
    have nw := fun q m => (I9.nws q m).1
    have nn := fun q m => (I9.nws q m).2.1
    simp only [List.mem_cons, List.not_mem_nil, or_false] at nw nn
    exact q2 rs dW dK dL dR kvs H9 rfl ht ok I9.bb ⟨⟨dx, ob⟩, nw _ (.inr (.inr (.inr rfl))), nw _ (.inr (.inr (.inl rfl))), nw _ (.inr (.inl rfl)), nw _ (.inl rfl), fun z => nd.2.1.2 z.symm, fun z => nd.1.2.2 z.symm, fun z => nd.1.1 z.symm⟩ di ⟨nn _ (.inr (.inr (.inr rfl))), nn _ (.inr (.inr (.inl rfl))), nn _ (.inr (.inl rfl)), nn _ (.inl rfl)⟩
end
end K18
/-! a house: what one store does to it -/
namespace Tc
open PySem L2 Evl
section
variable {K : PySem.W.Frag} {C R : Addr} {H H' : Hp} {p dW dK dL dR : Addr} {kvs : List (Key × V)} {kept : List V} {l : List (Rdg × Addr × Addr)} {m : HM} {X : Addr → Prop}
structure Apart (p dW dK dL dR : Addr) (l : List (Rdg × Addr × Addr)) : Prop where
  pW : p ≠ dW
  pK : p ≠ dK
  pL : p ≠ dL
  pR : p ≠ dR
  WK : dW ≠ dK
  WL : dW ≠ dL
  WR : dW ≠ dR
  KL : dK ≠ dL
  KR : dK ≠ dR
  LR : dL ≠ dR
  r1 : ∀ t ∈ l, t.2.1 ≠ p ∧ t.2.1 ≠ dW ∧ t.2.1 ≠ dK ∧ t.2.1 ≠ dL ∧ t.2.1 ≠ dR
  r2 : ∀ t ∈ l, t.2.2 ≠ p ∧ t.2.2 ≠ dW ∧ t.2.2 ≠ dK ∧ t.2.2 ≠ dL ∧ t.2.2 ≠ dR
theorem HsB.apart (S : HsB K C R H p dW dK dL dR kvs kept l m) : Apart p dW dK dL dR l := by
  have nd := S.nd
  unfold fpL at nd
  obtain ⟨a1, nd⟩ := List.nodup_cons.mp nd
  obtain ⟨a2, nd⟩ := List.nodup_cons.mp nd
  obtain ⟨a3, nd⟩ := List.nodup_cons.mp nd
  obtain ⟨a4, nd⟩ := List.nodup_cons.mp nd
  obtain ⟨a5, nd⟩ := List.nodup_cons.mp nd
  simp only [List.mem_cons, not_or] at a1 a2 a3 a4
  have inl : ∀ t ∈ l, t.2.1 ∈ l.flatMap (fun t => [t.2.1, t.2.2]) ∧ t.2.2 ∈ l.flatMap (fun t => [t.2.1, t.2.2]) := fun t mt => ⟨List.mem_flatMap.mpr ⟨t, mt, List.mem_cons_self⟩, List.mem_flatMap.mpr ⟨t, mt, List.mem_cons_of_mem _ List.mem_cons_self⟩⟩
  refine ⟨a1.1, a1.2.1, a1.2.2.1, a1.2.2.2.1, a2.1, a2.2.1, a2.2.2.1, a3.1, a3.2.1, a4.1, fun t mt => ?_, fun t mt => ?_⟩
  · have h := (inl t mt).1
    exact ⟨fun z => a1.2.2.2.2 (z ▸ h), fun z => a2.2.2.2 (z ▸ h), fun z => a3.2.2 (z ▸ h), fun z => a4.2 (z ▸ h), fun z => a5 (z ▸ h)⟩
  · have h := (inl t mt).2
    exact ⟨fun z => a1.2.2.2.2 (z ▸ h), fun z => a2.2.2.2 (z ▸ h), fun z => a3.2.2 (z ▸ h), fun z => a4.2 (z ▸ h), fun z => a5 (z ▸ h)⟩
/-- one object of it is stored anew: tuples stay -/
theorem kt_upd {a : Addr} {o : HO} (h : NoT H a) : Kt H (upd H a o) := Kt.but (fun x => x = a) (fun x e => e ▸ h) fun x u n e => by rw [upd_ne n]; exact e
theorem rds_keep {a : Addr} {o : HO} (h : NoT H a) (rd : ∀ t ∈ l, RdAt K R H t.2.1 t.2.2 t.1) (n : ∀ t ∈ l, t.2.1 ≠ a ∧ t.2.2 ≠ a) : ∀ t ∈ l, RdAt K R (upd H a o) t.2.1 t.2.2 t.1 := fun t mt =>
  (rd t mt).keep (fun u e => by rw [upd_ne (n t mt).1]; exact e) (fun u e => by rw [upd_ne (n t mt).2]; exact e) (kt_upd h)
/-- the log made longer -/
theorem HsB.append {v : V} {d : PyData} (S : HsB K C R H p dW dK dL dR kvs kept l m) (hv : Dp K H v d) (hg : goodEn allKs d = true) : HsB K C R (upd H dK (.lst (kept ++ [v]))) p dW dK dL dR kvs (kept ++ [v]) l { m with log := m.log ++ [d] } := by
  have A := S.apart
  have nt := S.noT _ fp_K
  have kt : Kt H (upd H dK (.lst (kept ++ [v]))) := kt_upd nt
  obtain ⟨dx, hp⟩ := S.at'.ob
  refine ⟨⟨⟨dx, by rw [upd_ne A.pK]; exact hp⟩, by rw [upd_ne A.WK]; exact S.at'.wo, upd_same, by rw [upd_ne A.KL.symm]; exact S.at'.li, by rw [upd_ne A.KR.symm]; exact S.at'.ru, S.at'.n1, S.at'.n2, S.at'.n3⟩, S.di, dps_app (kt.dps (fun d m => nl_en (S.go d m)) S.lo) (.cons (kt.dp 3 _ _ (nl_en hg) hv) .nil), fun e me => ?_, S.lv, S.lb, S.rn, S.rp, S.rb, S.rk, rds_keep nt S.rd fun t mt => ⟨(A.r1 t mt).2.2.1, (A.r2 t mt).2.2.1⟩, S.nd⟩
  rcases List.mem_append.mp me with h | h
  · exact S.go e h
  · rw [List.mem_singleton.mp h]
    exact hg
/-- the lives -/
theorem HsB.lives {l2 : List (Int × Option Int)} (S : HsB K C R H p dW dK dL dR kvs kept l m) (lv : l2.Pairwise fun x y => x.1 < y.1) (lb : ∀ r ∈ l2, 1 ≤ r.1 ∧ r.1 ≤ m.lg) : HsB K C R (upd H dL (.dK (lvV l2))) p dW dK dL dR kvs kept l { m with liv := l2 } := by
  have A := S.apart
  have nt := S.noT _ fp_L
  have kt : Kt H (upd H dL (.dK (lvV l2))) := kt_upd nt
  obtain ⟨dx, hp⟩ := S.at'.ob
  exact ⟨⟨⟨dx, by rw [upd_ne A.pL]; exact hp⟩, by rw [upd_ne A.WL]; exact S.at'.wo, by rw [upd_ne A.KL]; exact S.at'.ke, upd_same, by rw [upd_ne A.LR.symm]; exact S.at'.ru, S.at'.n1, S.at'.n2, S.at'.n3⟩, S.di, kt.dps (fun d m => nl_en (S.go d m)) S.lo, S.go, lv, lb, S.rn, S.rp, S.rb, S.rk, rds_keep nt S.rd fun t mt => ⟨(A.r1 t mt).2.2.2.1, (A.r2 t mt).2.2.2.1⟩, S.nd⟩
/-- the counters -/
theorem HsB.counts {dx : Addr} {lg bg : Nat} (S : HsB K C R H p dW dK dL dR kvs kept l m) (h1 : m.lg ≤ lg) (h2 : m.bg ≤ bg) : HsB K C R (upd H p (.ins C dx (hfl dW dK m.fk lg bg dL dR))) p dW dK dL dR kvs kept l { m with lg := lg, bg := bg } := by
  have A := S.apart
  have nt := S.noT _ fp_p
  have kt : Kt H (upd H p (.ins C dx (hfl dW dK m.fk lg bg dL dR))) := kt_upd nt
  exact ⟨⟨⟨dx, upd_same⟩, by rw [upd_ne A.pW.symm]; exact S.at'.wo, by rw [upd_ne A.pK.symm]; exact S.at'.ke, by rw [upd_ne A.pL.symm]; exact S.at'.li, by rw [upd_ne A.pR.symm]; exact S.at'.ru, S.at'.n1, S.at'.n2, S.at'.n3⟩, S.di, kt.dps (fun d m => nl_en (S.go d m)) S.lo, S.go, S.lv, (fun r mr => ⟨(S.lb r mr).1, by have := (S.lb r mr).2; show r.1 ≤ (lg : Int); omega⟩), S.rn, S.rp, (fun x mx => ⟨(S.rb x mx).1, by have := (S.rb x mx).2; show x.num < (bg : Int); omega⟩), S.rk, rds_keep nt S.rd fun t mt => ⟨(A.r1 t mt).1, (A.r2 t mt).1⟩, S.nd⟩
/-- one more reading -/
theorem HsB.rput {t : Rdg × Addr × Addr} (S : HsB K C R H p dW dK dL dR kvs kept l m) (hr : RdAt K R H t.2.1 t.2.2 t.1) (n1 : t.2.1 ∉ fpL p dW dK dL dR l) (n2 : t.2.2 ∉ fpL p dW dK dL dR l) (n3 : t.2.1 ≠ t.2.2) (h1 : ∀ x ∈ m.run, x.num < t.1.num) (h2 : 0 ≤ t.1.num ∧ t.1.num < m.bg) (hk : RgOk t.1) : HsB K C R (upd H dR (.dK (rnV (l ++ [t])))) p dW dK dL dR kvs kept (l ++ [t]) { m with run := m.run ++ [t.1] } := by
  have A := S.apart
  have nt := S.noT _ fp_R
  have kt : Kt H (upd H dR (.dK (rnV (l ++ [t])))) := kt_upd nt
  obtain ⟨dx, hp⟩ := S.at'.ob
  have e1 : t.2.1 ≠ dR := fun z => n1 (z ▸ fp_R)
  have e2 : t.2.2 ≠ dR := fun z => n2 (z ▸ fp_R)
  refine ⟨⟨⟨dx, by rw [upd_ne A.pR]; exact hp⟩, by rw [upd_ne A.WR]; exact S.at'.wo, by rw [upd_ne A.KR]; exact S.at'.ke, by rw [upd_ne A.LR]; exact S.at'.li, upd_same, S.at'.n1, S.at'.n2, S.at'.n3⟩, S.di, kt.dps (fun d m => nl_en (S.go d m)) S.lo, S.go, S.lv, S.lb, by rw [List.map_append, S.rn]; rfl, List.pairwise_append.mpr ⟨S.rp, List.pairwise_singleton _ _, fun x hx y hy => by rw [List.mem_singleton.mp hy]; exact h1 x hx⟩, fun x hx => ?_, fun x hx => ?_, fun u hu => ?_, ?_⟩
  · rcases List.mem_append.mp hx with h | h
    · exact S.rb x h
    · rw [List.mem_singleton.mp h]
      exact h2
  · rcases List.mem_append.mp hx with h | h
    · exact S.rk x h
    · rw [List.mem_singleton.mp h]
      exact hk
  · rcases List.mem_append.mp hu with h | h
    · exact rds_keep nt S.rd (fun t mt => ⟨(A.r1 t mt).2.2.2.2, (A.r2 t mt).2.2.2.2⟩) u h
    · rw [List.mem_singleton.mp h]
      exact hr.keep (fun u e => by rw [upd_ne e1]; exact e) (fun u e => by rw [upd_ne e2]; exact e) kt
  · have e : fpL p dW dK dL dR (l ++ [t]) = fpL p dW dK dL dR l ++ [t.2.1, t.2.2] := by
      unfold fpL
      rw [List.flatMap_append]
      simp
    rw [e]
    refine List.nodup_append.mpr ⟨S.nd, List.nodup_cons.mpr ⟨fun z => n3 (List.mem_singleton.mp z), List.nodup_cons.mpr ⟨List.not_mem_nil, List.nodup_nil⟩⟩, fun a ha b hb z => ?_⟩
    subst z
    simp only [List.mem_cons, List.not_mem_nil, or_false] at hb
    rcases hb with rfl | rfl
    · exact n1 ha
    · exact n2 ha
theorem fp_sub {l2 : List (Rdg × Addr × Addr)} (h : l2.Sublist l) : (fpL p dW dK dL dR l2).Sublist (fpL p dW dK dL dR l) := by
  have g : ∀ {a b : List (Rdg × Addr × Addr)}, a.Sublist b → (a.flatMap fun t => [t.2.1, t.2.2]).Sublist (b.flatMap fun t => [t.2.1, t.2.2]) := fun {a b} s => by
    induction s with
    | slnil => exact List.Sublist.slnil
    | cons x _ ih =>
      rw [List.flatMap_cons]
      exact ih.trans (List.sublist_append_right _ _)
    | cons_cons x _ ih =>
      rw [List.flatMap_cons, List.flatMap_cons]
      exact ih.append_left _
  unfold fpL
  exact ((((((g h).cons_cons _).cons_cons _).cons_cons _).cons_cons _).cons_cons _)
/-- some readings are there no more -/
theorem HsB.rdel {l2 : List (Rdg × Addr × Addr)} (S : HsB K C R H p dW dK dL dR kvs kept l m) (s : l2.Sublist l) : HsB K C R (upd H dR (.dK (rnV l2))) p dW dK dL dR kvs kept l2 { m with run := l2.map (·.1) } := by
  have A := S.apart
  have nt := S.noT _ fp_R
  have kt : Kt H (upd H dR (.dK (rnV l2))) := kt_upd nt
  obtain ⟨dx, hp⟩ := S.at'.ob
  have sm : (l2.map (·.1)).Sublist m.run := S.rn ▸ s.map _
  exact ⟨⟨⟨dx, by rw [upd_ne A.pR]; exact hp⟩, by rw [upd_ne A.WR]; exact S.at'.wo, by rw [upd_ne A.KR]; exact S.at'.ke, by rw [upd_ne A.LR]; exact S.at'.li, upd_same, S.at'.n1, S.at'.n2, S.at'.n3⟩, S.di, kt.dps (fun d m => nl_en (S.go d m)) S.lo, S.go, S.lv, S.lb, rfl, S.rp.sublist sm, fun x hx => S.rb x (sm.subset hx), fun x hx => S.rk x (sm.subset hx), fun u hu => rds_keep nt S.rd (fun t mt => ⟨(A.r1 t mt).2.2.2.2, (A.r2 t mt).2.2.2.2⟩) u (s.subset hu), (S.nd).sublist (fp_sub s)⟩
/-- another table -/
theorem HsB.worths {dx dW' : Addr} {kvs' : List (Key × V)} {f' : Int → Option Int} (S : HsB K C R H p dW dK dL dR kvs kept l m) (h : H dW' = some (.dK kvs')) (di : DI allKs kvs' f') (n : dW' ∉ fpL p dW dK dL dR l) : HsB K C R (upd H p (.ins C dx (hfl dW' dK m.fk m.lg m.bg dL dR))) p dW' dK dL dR kvs' kept l { m with f := f' } := by
  have A := S.apart
  have nt := S.noT _ fp_p
  have kt : Kt H (upd H p (.ins C dx (hfl dW' dK m.fk m.lg m.bg dL dR))) := kt_upd nt
  have np : dW' ≠ p := fun z => n (z ▸ fp_p)
  refine ⟨⟨⟨dx, upd_same⟩, by rw [upd_ne np]; exact h, by rw [upd_ne A.pK.symm]; exact S.at'.ke, by rw [upd_ne A.pL.symm]; exact S.at'.li, by rw [upd_ne A.pR.symm]; exact S.at'.ru, fun z => n (z ▸ fp_L), fun z => n (z ▸ fp_R), S.at'.n3⟩, di, kt.dps (fun d m => nl_en (S.go d m)) S.lo, S.go, S.lv, S.lb, S.rn, S.rp, S.rb, S.rk, rds_keep nt S.rd fun t mt => ⟨(A.r1 t mt).1, (A.r2 t mt).1⟩, ?_⟩
  have nd := S.nd
  unfold fpL at nd n ⊢
  obtain ⟨a1, nd⟩ := List.nodup_cons.mp nd
  obtain ⟨a2, nd⟩ := List.nodup_cons.mp nd
  refine List.nodup_cons.mpr ⟨fun z => ?_, List.nodup_cons.mpr ⟨fun z => n (List.mem_cons_of_mem _ (List.mem_cons_of_mem _ z)), nd⟩⟩
  rcases List.mem_cons.mp z with z | z
  · exact np z.symm
  · exact a1 (List.mem_cons_of_mem _ z)
/-- another log, from a later place on -/
theorem HsB.keptn {dx dK' : Addr} {kept' : List V} {ds' : List PyData} {fk' : Nat} (S : HsB K C R H p dW dK dL dR kvs kept l m) (h : H dK' = some (.lst kept')) (hd : DpAll K H kept' ds') (hg : ∀ d ∈ ds', goodEn allKs d = true) (n : dK' ∉ fpL p dW dK dL dR l) : HsB K C R (upd H p (.ins C dx (hfl dW dK' fk' m.lg m.bg dL dR))) p dW dK' dL dR kvs kept' l { m with log := ds', fk := fk' } := by
  have A := S.apart
  have nt := S.noT _ fp_p
  have kt : Kt H (upd H p (.ins C dx (hfl dW dK' fk' m.lg m.bg dL dR))) := kt_upd nt
  have np : dK' ≠ p := fun z => n (z ▸ fp_p)
  refine ⟨⟨⟨dx, upd_same⟩, by rw [upd_ne A.pW.symm]; exact S.at'.wo, by rw [upd_ne np]; exact h, by rw [upd_ne A.pL.symm]; exact S.at'.li, by rw [upd_ne A.pR.symm]; exact S.at'.ru, S.at'.n1, S.at'.n2, S.at'.n3⟩, S.di, kt.dps (fun d m => nl_en (hg d m)) hd, hg, S.lv, S.lb, S.rn, S.rp, S.rb, S.rk, rds_keep nt S.rd fun t mt => ⟨(A.r1 t mt).1, (A.r2 t mt).1⟩, ?_⟩
  have nd := S.nd
  unfold fpL at nd n ⊢
  obtain ⟨a1, nd⟩ := List.nodup_cons.mp nd
  obtain ⟨a2, nd⟩ := List.nodup_cons.mp nd
  obtain ⟨a3, nd⟩ := List.nodup_cons.mp nd
  simp only [List.mem_cons, not_or] at a1 a2 n
  refine List.nodup_cons.mpr ⟨fun z => ?_, List.nodup_cons.mpr ⟨fun z => ?_, List.nodup_cons.mpr ⟨fun z => ?_, nd⟩⟩⟩
  · simp only [List.mem_cons] at z
    rcases z with z | z | z | z | z
    · exact a1.1 z
    · exact np z.symm
    · exact a1.2.2.1 z
    · exact a1.2.2.2.1 z
    · exact a1.2.2.2.2 z
  · simp only [List.mem_cons] at z
    rcases z with z | z | z | z
    · exact n.2.1 z.symm
    · exact a2.2.1 z
    · exact a2.2.2.1 z
    · exact a2.2.2.2 z
  · simp only [List.mem_cons] at z
    rcases z with z | z | z
    · exact n.2.2.2.1 z
    · exact n.2.2.2.2.1 z
    · exact n.2.2.2.2.2 z
/-- another dict of readings -/
theorem HsB.runn {dx dR' : Addr} {l2 : List (Rdg × Addr × Addr)} (S : HsB K C R H p dW dK dL dR kvs kept l m) (h : H dR' = some (.dK (rnV l2))) (s : l2.Sublist l) (n : dR' ∉ fpL p dW dK dL dR l) : HsB K C R (upd H p (.ins C dx (hfl dW dK m.fk m.lg m.bg dL dR'))) p dW dK dL dR' kvs kept l2 { m with run := l2.map (·.1) } := by
  have A := S.apart
  have nt := S.noT _ fp_p
  have kt : Kt H (upd H p (.ins C dx (hfl dW dK m.fk m.lg m.bg dL dR'))) := kt_upd nt
  have np : dR' ≠ p := fun z => n (z ▸ fp_p)
  have sm : (l2.map (·.1)).Sublist m.run := S.rn ▸ s.map _
  refine ⟨⟨⟨dx, upd_same⟩, by rw [upd_ne A.pW.symm]; exact S.at'.wo, by rw [upd_ne A.pK.symm]; exact S.at'.ke, by rw [upd_ne A.pL.symm]; exact S.at'.li, by rw [upd_ne np]; exact h, S.at'.n1, fun z => n (z ▸ fp_W), fun z => n (z ▸ fp_L)⟩, S.di, kt.dps (fun d m => nl_en (S.go d m)) S.lo, S.go, S.lv, S.lb, rfl, S.rp.sublist sm, fun x hx => S.rb x (sm.subset hx), fun x hx => S.rk x (sm.subset hx), fun u hu => rds_keep nt S.rd (fun t mt => ⟨(A.r1 t mt).1, (A.r2 t mt).1⟩) u (s.subset hu), ?_⟩
  have nd := (S.nd).sublist (fp_sub (p := p) (dW := dW) (dK := dK) (dL := dL) (dR := dR) s)
  have n2 : dR' ∉ fpL p dW dK dL dR l2 := fun z => n ((fp_sub s).subset z)
  unfold fpL at nd n2 ⊢
  obtain ⟨a1, nd⟩ := List.nodup_cons.mp nd
  obtain ⟨a2, nd⟩ := List.nodup_cons.mp nd
  obtain ⟨a3, nd⟩ := List.nodup_cons.mp nd
  obtain ⟨a4, nd⟩ := List.nodup_cons.mp nd
  obtain ⟨a5, nd⟩ := List.nodup_cons.mp nd
  simp only [List.mem_cons, not_or] at a1 a2 a3 a4 n2
  refine List.nodup_cons.mpr ⟨fun z => ?_, List.nodup_cons.mpr ⟨fun z => ?_, List.nodup_cons.mpr ⟨fun z => ?_, List.nodup_cons.mpr ⟨fun z => ?_, List.nodup_cons.mpr ⟨n2.2.2.2.2.2, nd⟩⟩⟩⟩⟩
  · simp only [List.mem_cons] at z
    rcases z with z | z | z | z | z
    · exact a1.1 z
    · exact a1.2.1 z
    · exact a1.2.2.1 z
    · exact np z.symm
    · exact a1.2.2.2.2 z
  · simp only [List.mem_cons] at z
    rcases z with z | z | z | z
    · exact a2.1 z
    · exact a2.2.1 z
    · exact n2.2.1 z.symm
    · exact a2.2.2.2 z
  · simp only [List.mem_cons] at z
    rcases z with z | z | z
    · exact a3.1 z
    · exact n2.2.2.1 z.symm
    · exact a3.2.2 z
  · simp only [List.mem_cons] at z
    rcases z with z | z
    · exact n2.2.2.2.1 z.symm
    · exact a4.2 z
end
end Tc
/-! a reading of the house changed where it stands; lives and numbers looked up -/
namespace Tc
open PySem L2 Evl
theorem pw_two {α : Type} {P : α → α → Prop} (sy : ∀ a b, P a b → P b a) : ∀ {l : List α}, l.Pairwise P → ∀ a ∈ l, ∀ b ∈ l, a ≠ b → P a b
  | [], _, a, h, _, _, _ => by cases h
  | x :: l, pw, a, ha, b, hb, n => by
    obtain ⟨p1, p2⟩ := List.pairwise_cons.mp pw
    rcases List.mem_cons.mp ha with rfl | ha'
    · rcases List.mem_cons.mp hb with rfl | hb'
      · exact absurd rfl n
      · exact p1 b hb'
    · rcases List.mem_cons.mp hb with rfl | hb'
      · exact sy _ _ (p1 a ha')
      · exact pw_two sy p2 a ha' b hb' n
section
variable {K : PySem.W.Frag} {C R : Addr} {H H' : Hp} {p dW dK dL dR : Addr} {kvs : List (Key × V)} {kept : List V} {l : List (Rdg × Addr × Addr)} {m : HM} {X : Addr → Prop}
theorem HsB.two (S : HsB K C R H p dW dK dL dR kvs kept l m) {t u : Rdg × Addr × Addr} (ht : t ∈ l) (hu : u ∈ l) (n : u.1.num ≠ t.1.num) : u.2.1 ≠ t.2.1 ∧ u.2.1 ≠ t.2.2 ∧ u.2.2 ≠ t.2.1 ∧ u.2.2 ≠ t.2.2 := by
  have nd := S.nd
  unfold fpL at nd
  replace nd := (List.nodup_cons.mp (List.nodup_cons.mp (List.nodup_cons.mp (List.nodup_cons.mp (List.nodup_cons.mp nd).2).2).2).2).2
  have h := (List.pairwise_flatMap.mp nd).2
  have g := pw_two (P := fun (a b : Rdg × Addr × Addr) => ∀ x ∈ [a.2.1, a.2.2], ∀ y ∈ [b.2.1, b.2.2], x ≠ y) (fun a b h x hx y hy e => h y hy x hx e.symm) h u hu t ht fun z => n (by rw [z])
  exact ⟨g _ List.mem_cons_self _ List.mem_cons_self, g _ List.mem_cons_self _ (List.mem_cons_of_mem _ List.mem_cons_self), g _ (List.mem_cons_of_mem _ List.mem_cons_self) _ List.mem_cons_self, g _ (List.mem_cons_of_mem _ List.mem_cons_self) _ (List.mem_cons_of_mem _ List.mem_cons_self)⟩
theorem HsB.one (S : HsB K C R H p dW dK dL dR kvs kept l m) {t : Rdg × Addr × Addr} (ht : t ∈ l) : t.2.1 ≠ t.2.2 := by
  have nd := S.nd
  unfold fpL at nd
  replace nd := (List.nodup_cons.mp (List.nodup_cons.mp (List.nodup_cons.mp (List.nodup_cons.mp (List.nodup_cons.mp nd).2).2).2).2).2
  have h := (List.pairwise_flatMap.mp nd).1 t ht
  exact (List.pairwise_cons.mp h).1 _ List.mem_cons_self
/-- the reading of number n made another -/
def upR (n : Int) (g : Rdg → Rdg) (x : Rdg) : Rdg := if x.num = n then g x else x
def upT (n : Int) (g : Rdg → Rdg) (t : Rdg × Addr × Addr) : Rdg × Addr × Addr := (upR n g t.1, t.2)
theorem HsB.rmap {t : Rdg × Addr × Addr} (S : HsB K C R H p dW dK dL dR kvs kept l m) (ht : t ∈ l) (g : Rdg → Rdg) (hn : ∀ x, (g x).num = x.num) (hk : ∀ x, RgOk x → RgOk (g x)) (hr : RdAt K R H' t.2.1 t.2.2 (g t.1)) (e : ∀ a o, a ≠ t.2.1 → a ≠ t.2.2 → H a = some o → H' a = some o) : HsB K C R H' p dW dK dL dR kvs kept (l.map (upT t.1.num g)) { m with run := m.run.map (upR t.1.num g) } := by
  have A := S.apart
  have kt : Kt H H' := Kt.but (fun a => a = t.2.1 ∨ a = t.2.2) (fun a z => by
    rcases z with rfl | rfl
    · exact S.noT _ (fp_r ht).1
    · exact S.noT _ (fp_r ht).2) fun a o z h => e a o (fun y => z (.inl y)) (fun y => z (.inr y)) h
  obtain ⟨dx, hp⟩ := S.at'.ob
  obtain ⟨a1, a2, a3, a4, a5⟩ := A.r1 t ht
  obtain ⟨b1, b2, b3, b4, b5⟩ := A.r2 t ht
  have num : ∀ x, (upR t.1.num g x).num = x.num := fun x => by
    unfold upR
    split
    · exact hn x
    · rfl
  have er : rnV (l.map (upT t.1.num g)) = rnV l := by
    unfold rnV
    rw [List.map_map]
    refine List.map_congr_left fun u _ => ?_
    show ((Sum.inl (upR t.1.num g u.1).num : Key), V.ref u.2.1) = _
    rw [num]
  have ef : fpL p dW dK dL dR (l.map (upT t.1.num g)) = fpL p dW dK dL dR l := by
    unfold fpL
    rw [List.flatMap_map]
    rfl
  refine ⟨⟨⟨dx, e _ _ a1.symm b1.symm hp⟩, e _ _ a2.symm b2.symm S.at'.wo, e _ _ a3.symm b3.symm S.at'.ke, e _ _ a4.symm b4.symm S.at'.li, by rw [er]; exact e _ _ a5.symm b5.symm S.at'.ru, S.at'.n1, S.at'.n2, S.at'.n3⟩, S.di, kt.dps (fun d m => nl_en (S.go d m)) S.lo, S.go, S.lv, S.lb, ?_, ?_, fun x hx => ?_, fun x hx => ?_, fun u hu => ?_, by rw [ef]; exact S.nd⟩
  · show (l.map (upT t.1.num g)).map (·.1) = m.run.map (upR t.1.num g)
    rw [List.map_map, ← S.rn, List.map_map]
    rfl
  · exact List.pairwise_map.mpr (S.rp.imp fun {a b} h => by rw [num, num]; exact h)
  · obtain ⟨y, hy, rfl⟩ := List.mem_map.mp hx
    rw [num]
    exact S.rb y hy
  · obtain ⟨y, hy, rfl⟩ := List.mem_map.mp hx
    unfold upR
    split
    · exact hk y (S.rk y hy)
    · exact S.rk y hy
  · obtain ⟨v, hv, rfl⟩ := List.mem_map.mp hu
    show RdAt K R H' v.2.1 v.2.2 (upR t.1.num g v.1)
    by_cases z : v.1.num = t.1.num
    · have ev : v = t := Classical.byContradiction fun ne => by
        have h1 := pw_two (P := fun (a b : Rdg × Addr × Addr) => a.1.num ≠ b.1.num) (fun a b h e => h e.symm) (l := l) (by have h := S.rp; rw [← S.rn, List.pairwise_map] at h; exact h.imp fun {a b} h => by omega) v hv t ht ne
        exact h1 z
      subst ev
      unfold upR
      rw [if_pos rfl]
      exact hr
    · obtain ⟨c1, c2, c3, c4⟩ := S.two ht hv z
      unfold upR
      rw [if_neg z]
      exact (S.rd v hv).keep (fun o h => e _ _ c1 c2 h) (fun o h => e _ _ c3 c4 h) kt
theorem lv_some (l : List (Int × Option Int)) (k : Int) : (valV (lvV l) (.inl k)).isSome = decide (k ∈ l.map (·.1)) := by
  have h := valV_memI (kvs := lvV l) (k := .inl k)
  have e : (lvV l).map (·.1) = (l.map (·.1)).map Sum.inl := by
    unfold lvV
    rw [List.map_map, List.map_map]
    rfl
  rw [e] at h
  have h2 : (Sum.inl k : Key) ∈ (l.map (·.1)).map Sum.inl ↔ k ∈ l.map (·.1) := by
    rw [List.mem_map]
    exact ⟨fun ⟨j, m, z⟩ => Sum.inl.inj z ▸ m, fun m => ⟨k, m, rfl⟩⟩
  rw [h2] at h
  cases e2 : (valV (lvV l) (.inl k)).isSome with
  | true => exact (decide_eq_true (h.mpr e2)).symm
  | false => exact (decide_eq_false fun z => by rw [h.mp z] at e2; cases e2).symm
theorem lv_val : ∀ {l : List (Int × Option Int)} {i : Nat} {r : Int × Option Int}, (l.Pairwise fun x y => x.1 < y.1) → l[i]? = some r → valV (lvV l) (.inl r.1) = some (opV r.2)
  | [], _, _, _, h => by cases h
  | q :: l, 0, r, _, h => by
    cases h
    exact valV_pos rfl
  | q :: l, i + 1, r, pw, h => by
    obtain ⟨p1, p2⟩ := List.pairwise_cons.mp pw
    have m : r ∈ l := List.mem_of_getElem? h
    have lt := p1 r m
    show valV ((.inl q.1, opV q.2) :: lvV l) (.inl r.1) = _
    rw [valV_neg fun z => by
      have := Sum.inl.inj z
      omega]
    exact lv_val p2 h
theorem lv_none {l : List (Int × Option Int)} {k : Int} (h : ∀ r ∈ l, r.1 ≠ k) : valV (lvV l) (.inl k) = none := by
  have := lv_some l k
  rw [decide_eq_false fun z => by
    obtain ⟨r, m, e⟩ := List.mem_map.mp z
    exact h r m e] at this
  exact Option.isNone_iff_eq_none.mp (by rw [← Option.not_isSome, this]; rfl)
theorem rn_some (l : List (Rdg × Addr × Addr)) (k : Int) : (valV (rnV l) (.inl k)).isSome = decide (k ∈ l.map (·.1.num)) := by
  have h := valV_memI (kvs := rnV l) (k := .inl k)
  have e : (rnV l).map (·.1) = (l.map (·.1.num)).map Sum.inl := by
    unfold rnV
    rw [List.map_map, List.map_map]
    rfl
  rw [e] at h
  have h2 : (Sum.inl k : Key) ∈ (l.map (·.1.num)).map Sum.inl ↔ k ∈ l.map (·.1.num) := by
    rw [List.mem_map]
    exact ⟨fun ⟨j, m, z⟩ => Sum.inl.inj z ▸ m, fun m => ⟨k, m, rfl⟩⟩
  rw [h2] at h
  cases e2 : (valV (rnV l) (.inl k)).isSome with
  | true => exact (decide_eq_true (h.mpr e2)).symm
  | false => exact (decide_eq_false fun z => by rw [h.mp z] at e2; cases e2).symm
theorem rn_val : ∀ {l : List (Rdg × Addr × Addr)} {t : Rdg × Addr × Addr}, (l.Pairwise fun x y => x.1.num < y.1.num) → t ∈ l → valV (rnV l) (.inl t.1.num) = some (.ref t.2.1)
  | [], _, _, h => by cases h
  | q :: l, t, pw, h => by
    obtain ⟨p1, p2⟩ := List.pairwise_cons.mp pw
    show valV ((.inl q.1.num, .ref q.2.1) :: rnV l) (.inl t.1.num) = _
    rcases List.mem_cons.mp h with rfl | h
    · exact valV_pos rfl
    · have lt := p1 t h
      rw [valV_neg fun z => by
        have := Sum.inl.inj z
        omega]
      exact rn_val p2 h
theorem HsB.lp (S : HsB K C R H p dW dK dL dR kvs kept l m) : l.Pairwise fun x y => x.1.num < y.1.num := by
  have h := S.rp
  rw [← S.rn, List.pairwise_map] at h
  exact h
theorem HsB.nums (S : HsB K C R H p dW dK dL dR kvs kept l m) : l.map (·.1.num) = m.run.map (·.num) := by
  rw [← S.rn, List.map_map]
  rfl
theorem HsB.klen (S : HsB K C R H p dW dK dL dR kvs kept l m) : kept.length = m.log.length := dps_len S.lo
end
end Tc
namespace K18
open PySem L2 PyProof.Rows Tc Evl
abbrev sReading : Stmt := topS 54
abbrev mChange : Stmt := inClass sHouse 2
abbrev mLife : Stmt := inClass sHouse 3
abbrev mBegin : Stmt := inClass sHouse 4
abbrev mLook : Stmt := inClass sHouse 5
abbrev mFinish : Stmt := inClass sHouse 6
abbrev mStop : Stmt := inClass sHouse 7
abbrev mHold : Stmt := inClass sHouse 8
abbrev mLeave : Stmt := inClass sHouse 9
abbrev mTrim : Stmt := inClass sHouse 10
abbrev mTable : Stmt := inClass sHouse 11
abbrev mPlaces : Stmt := inClass sHouse 12
abbrev mEntries : Stmt := inClass sHouse 13
abbrev mHolds : Stmt := inClass sHouse 14
abbrev mReadings : Stmt := inClass sHouse 15
abbrev mRone : Stmt := inClass sHouse 16
abbrev mCkl : Stmt := inClass sHouse 17
abbrev mCkk : Stmt := inClass sHouse 18
theorem smChange : FnScope ["self", "changes", "entry", "worths"] ["self", "changes"] (defScope mChange) := ⟨rfl, rfl, rfl, by decide +kernel, rfl, by decide +kernel, by decide +kernel⟩
theorem smLife : FnScope ["self"] ["self"] (defScope mLife) := ⟨rfl, rfl, rfl, by decide +kernel, rfl, by decide +kernel, by decide +kernel⟩
theorem smBegin : FnScope ["self", "life", "first", "last", "number"] ["self", "life", "first", "last"] (defScope mBegin) := ⟨rfl, rfl, rfl, by decide +kernel, rfl, by decide +kernel, by decide +kernel⟩
theorem smLook : FnScope ["self", "number", "many", "reading", "ahead", "at"] ["self", "number", "many"] (defScope mLook) := ⟨rfl, rfl, rfl, by decide +kernel, rfl, by decide +kernel, by decide +kernel⟩
theorem smFinish : FnScope ["self", "number", "reading"] ["self", "number"] (defScope mFinish) := ⟨rfl, rfl, rfl, by decide +kernel, rfl, by decide +kernel, by decide +kernel⟩
theorem smStop : FnScope ["self", "number"] ["self", "number"] (defScope mStop) := ⟨rfl, rfl, rfl, by decide +kernel, rfl, by decide +kernel, by decide +kernel⟩
theorem smHold : FnScope ["self", "life", "place"] ["self", "life", "place"] (defScope mHold) := ⟨rfl, rfl, rfl, by decide +kernel, rfl, by decide +kernel, by decide +kernel⟩
theorem smLeave : FnScope ["self", "life", "number", "reading"] ["self", "life"] (defScope mLeave) := ⟨rfl, rfl, rfl, by decide +kernel, rfl, by decide +kernel, by decide +kernel⟩
theorem smTrim : FnScope ["self", "place", "life", "held"] ["self", "place"] (defScope mTrim) := ⟨rfl, rfl, rfl, by decide +kernel, rfl, by decide +kernel, by decide +kernel⟩
theorem smTable : FnScope ["self"] ["self"] (defScope mTable) := ⟨rfl, rfl, rfl, by decide +kernel, rfl, by decide +kernel, by decide +kernel⟩
theorem smPlaces : FnScope ["self"] ["self"] (defScope mPlaces) := ⟨rfl, rfl, rfl, by decide +kernel, rfl, by decide +kernel, by decide +kernel⟩
theorem smEntries : FnScope ["self", "place", "many", "first", "last"] ["self", "place", "many"] (defScope mEntries) := ⟨rfl, rfl, rfl, by decide +kernel, rfl, by decide +kernel, by decide +kernel⟩
theorem smHolds : FnScope ["self", "life"] ["self"] (defScope mHolds) := ⟨rfl, rfl, rfl, by decide +kernel, rfl, by decide +kernel, by decide +kernel⟩
theorem smReadings : FnScope ["self", "told", "number", "reading"] ["self"] (defScope mReadings) := ⟨rfl, rfl, rfl, by decide +kernel, rfl, by decide +kernel, by decide +kernel⟩
theorem smRone : FnScope ["self", "number"] ["self", "number"] (defScope mRone) := ⟨rfl, rfl, rfl, by decide +kernel, rfl, by decide +kernel, by decide +kernel⟩
theorem smCkl : FnScope ["self", "life"] ["self", "life"] (defScope mCkl) := ⟨rfl, rfl, rfl, by decide +kernel, rfl, by decide +kernel, by decide +kernel⟩
theorem smCkk : FnScope ["self", "place", "first", "last"] ["self", "place"] (defScope mCkk) := ⟨rfl, rfl, rfl, by decide +kernel, rfl, by decide +kernel, by decide +kernel⟩
def spCkl (K : PySem.W.Frag) (C R CL : Addr) : Sp := fun vs H Q E => ∃ (p : Addr) (m : HM) (X : Addr → Prop) (i : Int), vs = [.ref p, .int i] ∧ HsM K C R H p m X ∧ i.natAbs.log2 < 1920 ∧
  (i ∉ m.liv.map (·.1) → ∀ d H', H d = none → Ex H H' → H' d = some (.xd [("who", .int i)]) → E (.ref CL) (some d) H') ∧ (i ∈ m.liv.map (·.1) → ∀ H', Ex H H' → Q .non H')
def spPls (K : PySem.W.Frag) (C R : Addr) : Sp := fun vs H Q E => ∃ (p : Addr) (m : HM) (X : Addr → Prop), vs = [.ref p] ∧ HsM K C R H p m X ∧ ∀ t H', H t = none → Ex H H' → H' t = some (.tup [.int (m.fk : Int), .int ((m.fk : Int) + (m.log.length : Int))]) → Q (.ref t) H'
def spCkk (K : PySem.W.Frag) (C R CP : Addr) : Sp := fun vs H Q E => ∃ (p : Addr) (m : HM) (X : Addr → Prop) (i : Int), vs = [.ref p, .int i] ∧ HsM K C R H p m X ∧ i.natAbs.log2 < 1920 ∧
  (¬ ((m.fk : Int) ≤ i ∧ i ≤ (m.fk : Int) + (m.log.length : Int)) → ∀ d H', H d = none → Ex H H' → H' d = some (.xd [("at", .int i)]) → E (.ref CP) (some d) H') ∧ (((m.fk : Int) ≤ i ∧ i ≤ (m.fk : Int) + (m.log.length : Int)) → ∀ H', Ex H H' → Q .non H')
def spRone (K : PySem.W.Frag) (C R CR : Addr) : Sp := fun vs H Q E => ∃ (p dW dK dL dR : Addr) (kvs : List (Key × V)) (kept : List V) (l : List (Rdg × Addr × Addr)) (m : HM) (i : Int), vs = [.ref p, .int i] ∧ HsB K C R H p dW dK dL dR kvs kept l m ∧ i.natAbs.log2 < 1920 ∧
  (i ∉ m.run.map (·.num) → ∀ d H', H d = none → Ex H H' → H' d = some (.xd [("number", .int i)]) → E (.ref CR) (some d) H') ∧ (∀ t ∈ l, t.1.num = i → ∀ H', Ex H H' → Q (.ref t.2.1) H')
def spTbl (K : PySem.W.Frag) (C R : Addr) : Sp := fun vs H Q E => ∃ (p : Addr) (m : HM) (X : Addr → Prop), vs = [.ref p] ∧ HsM K C R H p m X ∧ ∀ t js H', H t = none → Ex H H' → KeysOf m.f js → TP K H' t (rowsOf m.f js) → Q (.ref t) H'
def spHos (K : PySem.W.Frag) (C R : Addr) : Sp := fun vs H Q E => ∃ (p : Addr) (m : HM) (X : Addr → Prop), vs = [.ref p] ∧ HsM K C R H p m X ∧ m.lg ≤ 10000 ∧ ∀ t us H', H t = none → Ex H H' → H' t = some (.lst us) → DpAll K H' us (hoD m.liv) → Q (.ref t) H'
def spLif (K : PySem.W.Frag) (C R : Addr) : Sp := fun vs H Q E => ∃ (p : Addr) (m : HM) (X : Addr → Prop), vs = [.ref p] ∧ HsM K C R H p m X ∧ m.lg ≤ 10000 ∧ ∀ H', HOut K C R H p X { m with lg := m.lg + 1, liv := m.liv ++ [((m.lg : Int) + 1, none)] } H' → Q (.int ((m.lg : Int) + 1)) H'
def spEnt (K : PySem.W.Frag) (C R CP CT : Addr) : Sp := fun vs H Q E => ∃ (p : Addr) (m : HM) (X : Addr → Prop) (i n : Int), vs = [.ref p, .int i, .int n] ∧ HsM K C R H p m X ∧ i.natAbs.log2 < 1920 ∧ m.fk ≤ 100000 ∧
  (i > (m.fk : Int) + (m.log.length : Int) → ∀ d H', H d = none → Ex H H' → H' d = some (.xd [("at", .int i)]) → E (.ref CP) (some d) H') ∧
  (i ≤ (m.fk : Int) + (m.log.length : Int) → i < (m.fk : Int) → ∀ d H', H d = none → Ex H H' → H' d = some (.xd [("at", .int (m.fk : Int))]) → E (.ref CT) (some d) H') ∧
  (i ≤ (m.fk : Int) + (m.log.length : Int) → (m.fk : Int) ≤ i → ∀ t us H', H t = none → Ex H H' → H' t = some (.lst us) → DpAll K H' us ((m.log.drop (i - m.fk).toNat).take n.toNat) → Q (.ref t) H')
/-- the lives with one place changed -/
def setL (l : List (Int × Option Int)) (k z : Int) : List (Int × Option Int) := l.map fun r => if r.1 = k then (r.1, some z) else r
def spHold (K : PySem.W.Frag) (C R CL CP : Addr) : Sp := fun vs H Q E => ∃ (p : Addr) (m : HM) (X : Addr → Prop) (i z : Int), vs = [.ref p, .int i, .int z] ∧ HsM K C R H p m X ∧ i.natAbs.log2 < 1920 ∧ z.natAbs.log2 < 1920 ∧ m.lg ≤ 10000 ∧
  (i ∉ m.liv.map (·.1) → ∀ d H', H d = none → Ex H H' → H' d = some (.xd [("who", .int i)]) → E (.ref CL) (some d) H') ∧
  (i ∈ m.liv.map (·.1) → ¬ ((m.fk : Int) ≤ z ∧ z ≤ (m.fk : Int) + (m.log.length : Int)) → ∀ d H', H d = none → Ex H H' → H' d = some (.xd [("at", .int z)]) → E (.ref CP) (some d) H') ∧
  (i ∈ m.liv.map (·.1) → ((m.fk : Int) ≤ z ∧ z ≤ (m.fk : Int) + (m.log.length : Int)) → ∀ H', HOut K C R H p X { m with liv := setL m.liv i z } H' → Q .non H')
def spStop (K : PySem.W.Frag) (C R CR : Addr) : Sp := fun vs H Q E => ∃ (p : Addr) (m : HM) (X : Addr → Prop) (i : Int), vs = [.ref p, .int i] ∧ HsM K C R H p m X ∧ i.natAbs.log2 < 1920 ∧
  (i ∉ m.run.map (·.num) → ∀ d H', H d = none → Ex H H' → H' d = some (.xd [("number", .int i)]) → E (.ref CR) (some d) H') ∧
  (i ∈ m.run.map (·.num) → ∀ H', HOut K C R H p X { m with run := m.run.filter fun x => !decide (x.num = i) } H' → Q .non H')
theorem liv_few {K : PySem.W.Frag} {C R : Addr} {H : Hp} {p dW dK dL dR : Addr} {kvs : List (Key × V)} {kept : List V} {l : List (Rdg × Addr × Addr)} {m : HM} (S : HsB K C R H p dW dK dL dR kvs kept l m) : m.liv.length ≤ m.lg := by
  have h : (m.liv.map (·.1)).Nodup := (List.pairwise_map.mpr S.lv).imp fun {a b} z e => by omega
  have := len_sub (m := (List.range m.lg).map fun (i : Nat) => (i : Int) + 1) h fun x hx => by
    obtain ⟨r, mr, rfl⟩ := List.mem_map.mp hx
    have := S.lb r mr
    exact List.mem_map.mpr ⟨(r.1 - 1).toNat, List.mem_range.mpr (by omega), by omega⟩
  rw [List.length_map, List.length_map, List.length_range] at this
  exact this
section
variable {P : Program} {w : World} {K : PySem.W.Frag} {mg : Str → Option Value} {base : Heap}
theorem dp_rowp {H : Hp} {t : Addr} {k z : Int} (h : H t = some (.tup [.int k, .int z])) : Dp K H (.ref t) (Tc.pairD (k, z)) := .tup (st_of h) (.cons (.int k) (.cons (.int z) .nil))
set_option maxHeartbeats 1000000 in
theorem ok_ckl {f C R : Addr} {fd : FuncData} {CL : Addr} {kE k : Nat} (F : Fun K "check_life" "House.check_life" mCkl f fd) (N : Names mg) (T : HTx K mg C) (dE : OwnE P w K mg base "NoLife" CL ["self", "who"] kE (spX1 CL "who")) (hE : kE + 1 ≤ k) : FnOk P w K mg base (L2N.CX P w) (k + 1) f fd ["self", "life"] (spCkl K C R CL) := by
  refine okN F smCkl (fun vs H Q E h => ?_) (fun cdv A outer s H vs Q E hr h => ?_)
  · obtain ⟨p, m, X, i, rfl, _⟩ := h
    rfl
  · obtain ⟨p, m, X, i, rfl, S, hb, q1, q2⟩ := h
    refine ⟨_, pss_one (ps_if (pt_cmp (pc_dnotin (hu_of hr) (pv 1) (pe_fld (pv 0) rfl))) (pss_one (ps_raiseE dE rfl (L2N.takes_of rfl rfl rfl rfl) hr hE (by rfl) (pa_cons (pv 1) pa_nil))) pss_nil), ?_⟩
    obtain ⟨dW, dK, dL, dR, kvs, kept, l, B, fx⟩ := S
    obtain ⟨dx, hp⟩ := B.at'.ob
    have ht : EvT (tTest (tDNotIn (tVar 1) (tFld K (tVar 0) "living"))) [some (.ref p), some (.int i)] H (!(valV (lvV m.liv) (.inl i)).isSome) := fun G x Q' q' => ⟨.int i, rfl, .ref p, rfl, p, C, dx, _, _, rfl, x _ _ hp, T.cl, T.aL, hl_living _ _ _ _ _ _ _ , dL, _, rfl, DGet.k (k := .inl i) (x _ _ B.at'.li), _, rfl, q' G (Ex.refl G)⟩
    rw [lv_some] at ht
    refine s_if ht (fun z H1 x1 => ?_) fun z H1 x1 => s_next (q2 ?_ H1 x1)
    · have bad : i ∉ m.liv.map (·.1) := by
        intro z2
        rw [decide_eq_true z2] at z
        cases z
      exact raise_go (ea_cons (ev_var rfl) ea_nil) hb fun d H2 nd x2 h2 => q1 bad d H2 (fresh_back x1 nd) (x1.trans x2) h2
    · exact Classical.byContradiction fun z2 => by
        rw [decide_eq_false z2] at z
        cases z
set_option maxHeartbeats 1000000 in
theorem ok_pls {f C R : Addr} {fd : FuncData}  {k : Nat} (F : Fun K "places" "House.places" mPlaces f fd) (N : Names mg) (T : HTx K mg C)  : FnOk P w K mg base (L2N.CX P w) (k + 1) f fd ["self"] (spPls K C R) := by
  refine okN F smPlaces (fun vs H Q E h => ?_) (fun cdv A outer s H vs Q E hr h => ?_)
  · obtain ⟨p, m, X, rfl, _⟩ := h
    rfl
  · obtain ⟨p, m, X, rfl, S, q⟩ := h
    refine ⟨_, (pss_one (ps_ret (pe_tup (pa_cons (pe_fld (pv 0) rfl) (pa_cons (pe_op op_add (pe_fld (pv 0) rfl) (pe_callB call_len_seq (by rfl) N.len PySem.boot_len (pa_cons (pe_fld (pv 0) rfl) pa_nil))) pa_nil))))), ?_⟩
    obtain ⟨dW, dK, dL, dR, kvs, kept, l, B, fx⟩ := S
    obtain ⟨dx, hp⟩ := B.at'.ob
    refine ⟨_, rfl, p, C, dx, _, _, rfl, hp, T.cl, T.aF, hl_first_kept _ _ _ _ _ _ _ , _, rfl, p, C, dx, _, _, rfl, hp, T.cl, T.aF, hl_first_kept _ _ _ _ _ _ _ , _, rfl, p, C, dx, _, _, rfl, hp, T.cl, T.aK, hl_kept _ _ _ _ _ _ _ , dK, kept, rfl, .inl (sq_of B.at'.ke), _, _, rfl, rfl, sz_of (by simp), fun t ht => q t _ ht (Ex.new ht) ?_⟩
    rw [← B.klen]
    exact upd_same
set_option maxHeartbeats 1000000 in
theorem ok_ckk {f C R : Addr} {fd : FuncData} {CP : Addr} {kP kE k : Nat} (F : Fun K "check_kept" "House.check_kept" mCkk f fd) (N : Names mg) (T : HTx K mg C) (dP : MethX P w K mg base C "places" ["self"] kP (spPls K C R)) (hP : kP ≤ k) (dE : OwnE P w K mg base "NoPlace" CP ["self", "at"] kE (spX1 CP "at")) (hE : kE + 1 ≤ k) : FnOk P w K mg base (L2N.CX P w) (k + 1) f fd ["self", "place"] (spCkk K C R CP) := by
  refine okN F smCkk (fun vs H Q E h => ?_) (fun cdv A outer s H vs Q E hr h => ?_)
  · obtain ⟨p, m, X, i, rfl, _⟩ := h
    rfl
  · obtain ⟨p, m, X, i, rfl, S, hb, q1, q2⟩ := h
    refine ⟨_, (pss_cons (ps_asg (pe_methX0 dP (L2N.takes_of rfl rfl rfl rfl) hr hP T.cl (pv 0)) (pg_tup rfl (pgs_cons (pg_name (i := 2) smCkk.nd rfl (.inl rfl)) (pgs_cons (pg_name (i := 3) smCkk.nd rfl (.inl rfl)) pgs_nil))))
      (pss_one (ps_if (pt_not (pt_chain op_le op_le (pv 2) (pv 1) (pv 3))) (pss_one (ps_raiseE dE rfl (L2N.takes_of rfl rfl rfl rfl) hr hE (by rfl) (pa_cons (pv 1) pa_nil))) pss_nil))), ?_⟩
    have S' := S
    obtain ⟨dW, dK, dL, dR, kvs, kept, l, B, fx⟩ := S'
    obtain ⟨dx, hp⟩ := B.at'.ob
    refine s_seq ⟨.ref p, rfl, p, dx, _, rfl, hp, (hfl_no _ _ _ _ _ _ _ (by decide +kernel)), p, m, X, rfl, S, fun t H1 ht x1 h1 => ?_⟩
    refine ⟨t, _, rfl, st_of h1, rfl, _, _, rfl, _, _, rfl, rfl, ?_⟩
    dsimp only
    refine s_if (b := !(decide ((m.fk : Int) ≤ i) && decide (i ≤ (m.fk : Int) + (m.log.length : Int)))) (et_not (et_test (ev_chain (p := fun i j => decide (i ≤ j)) (p' := fun i j => decide (i ≤ j)) (ev_var rfl) (ev_var rfl) (ev_var rfl)))) (fun e H2 x2 => ?_) fun e H2 x2 => s_next (q2 ?_ H2 (x1.trans x2))
    · have bad : ¬ ((m.fk : Int) ≤ i ∧ i ≤ (m.fk : Int) + (m.log.length : Int)) := fun z => by
        rw [decide_eq_true z.1, decide_eq_true z.2] at e
        cases e
      exact raise_go (ea_cons (ev_var rfl) ea_nil) hb fun d H3 nd x3 h3 => q1 bad d H3 (fresh_back (x1.trans x2) nd) ((x1.trans x2).trans x3) h3
    · simp only [Bool.not_eq_false', Bool.and_eq_true, decide_eq_true_eq] at e
      exact e
set_option maxHeartbeats 1000000 in
theorem ok_rone {f C R : Addr} {fd : FuncData} {CR : Addr} {kE k : Nat} (F : Fun K "running_one" "House.running_one" mRone f fd) (N : Names mg) (T : HTx K mg C) (dE : OwnE P w K mg base "NoReading" CR ["self", "number"] kE (spX1 CR "number")) (hE : kE + 1 ≤ k) : FnOk P w K mg base (L2N.CX P w) (k + 1) f fd ["self", "number"] (spRone K C R CR) := by
  refine okN F smRone (fun vs H Q E h => ?_) (fun cdv A outer s H vs Q E hr h => ?_)
  · obtain ⟨p, dW, dK, dL, dR, kvs, kept, l, m, i, rfl, _⟩ := h
    rfl
  · obtain ⟨p, dW, dK, dL, dR, kvs, kept, l, m, i, rfl, B, hb, q1, q2⟩ := h
    refine ⟨_, (pss_cons (ps_if (pt_cmp (pc_dnotin (hu_of hr) (pv 1) (pe_fld (pv 0) rfl))) (pss_one (ps_raiseE dE rfl (L2N.takes_of rfl rfl rfl rfl) hr hE (by rfl) (pa_cons (pv 1) pa_nil))) pss_nil)
      (pss_one (ps_ret (pe_dget (hu_of hr) (pe_fld (pv 0) rfl) (pv 1) (fun _ _ => rfl))))), ?_⟩
    obtain ⟨dx, hp⟩ := B.at'.ob
    have ht : EvT (tTest (tDNotIn (tVar 1) (tFld K (tVar 0) "running"))) [some (.ref p), some (.int i)] H (!(valV (rnV l) (.inl i)).isSome) := fun G x Q' q' => ⟨.int i, rfl, .ref p, rfl, p, C, dx, _, _, rfl, x _ _ hp, T.cl, T.aR, hl_running _ _ _ _ _ _ _ , dR, _, rfl, DGet.k (k := .inl i) (x _ _ B.at'.ru), _, rfl, q' G (Ex.refl G)⟩
    rw [rn_some, B.nums] at ht
    refine s_seq (s_if ht (fun z H1 x1 => ?_) fun z H1 x1 => s_next ?_)
    · have bad : i ∉ m.run.map (·.num) := by
        intro z2
        rw [decide_eq_true z2] at z
        cases z
      exact raise_go (ea_cons (ev_var rfl) ea_nil) hb fun d H2 nd x2 h2 => q1 bad d H2 (fresh_back x1 nd) (x1.trans x2) h2
    · have good : i ∈ m.run.map (·.num) := Classical.byContradiction fun z2 => by
        rw [decide_eq_false z2] at z
        cases z
      rw [← B.nums] at good
      obtain ⟨t, mt, rfl⟩ := List.mem_map.mp good
      exact ⟨_, rfl, p, C, dx, _, _, rfl, x1 _ _ hp, T.cl, T.aR, hl_running _ _ _ _ _ _ _ , .int t.1.num, rfl, dR, .ref t.2.1, rfl, by rw [← rn_val B.lp mt]; exact DGet.k (k := .inl t.1.num) (x1 _ _ B.at'.ru), q2 t mt rfl H1 x1⟩
set_option maxHeartbeats 1000000 in
theorem ok_tbl {f C R : Addr} {fd : FuncData}  {kR k : Nat} (F : Fun K "table" "House.table" mTable f fd) (N : Names mg) (T : HTx K mg C) (dRi : Own P w K mg base "rising" ["rows"] kR (spRising K)) (hRi : kR ≤ k) : FnOk P w K mg base (L2N.CX P w) (k + 1) f fd ["self"] (spTbl K C R) := by
  refine okN F smTable (fun vs H Q E h => ?_) (fun cdv A outer s H vs Q E hr h => ?_)
  · obtain ⟨p, m, X, rfl, _⟩ := h
    rfl
  · obtain ⟨p, m, X, rfl, S, q⟩ := h
    refine ⟨_, (pss_one (ps_ret (pe_own dRi hr hRi (by rfl) (pa_cons (pe_fld (pv 0) rfl) pa_nil)))), ?_⟩
    obtain ⟨dW, dK, dL, dR, kvs, kept, l, B, fx⟩ := S
    obtain ⟨dx, hp⟩ := B.at'.ob
    exact ⟨_, rfl, p, C, dx, _, _, rfl, hp, T.cl, T.aW, hl_worths _ _ _ _ _ _ _ , dW, allKs, kvs, m.f, rfl, B.at'.wo, B.di, by rw [allKs_len]; omega, fun t js H' ht x kf _ tp => q t js H' ht x kf tp⟩
set_option maxHeartbeats 1000000 in
theorem ok_hos {f C R : Addr} {fd : FuncData}  {k : Nat} (F : Fun K "holds" "House.holds" mHolds f fd) (N : Names mg) (T : HTx K mg C)  : FnOk P w K mg base (L2N.CX P w) (k + 1) f fd ["self"] (spHos K C R) := by
  refine okN F smHolds (fun vs H Q E h => ?_) (fun cdv A outer s H vs Q E hr h => ?_)
  · obtain ⟨p, m, X, rfl, _⟩ := h
    rfl
  · obtain ⟨p, m, X, rfl, S, few, q⟩ := h
    refine ⟨_, (pss_one (ps_ret (pe_lc (own := [("life", 1)]) (g := gName 1) (tt := tTest (tOp rNotN (tDGet (tFld K (tVar 0) "living") (tVar 1)) (tC .non))) (te := tTup (tCons (tVar 1) (tCons (tDGet (tFld K (tVar 0) "living") (tVar 1)) tNil))) rfl smHolds.nd (pi_list (pe_callB (cr_sortedDA rfl) (by rfl) N.sorted boot_sorted (pa_cons (pe_fld (pv 0) rfl) pa_nil))) (blkOk_by (N := ["self", "life"]) (sc := defScope mHolds) (by decide +kernel)) (fun _ _ _ _ _ => pg_name (i := 1) smHolds.nd rfl (Or.inl rfl)) (fun _ _ _ _ _ => pts_one (pt_cmpR op_notN1 (pe_dget (hu_of hr) (pe_fld (pv 0) rfl) (pv 1) (fun _ _ => rfl)) pe_non (nomark _))) (fun _ _ _ _ _ => (pe_tup (pa_cons (pv 1) (pa_cons (pe_dget (hu_of hr) (pe_fld (pv 0) rfl) (pv 1) (fun _ _ => rfl)) pa_nil))))))), ?_⟩
    obtain ⟨dW, dK, dL, dR, kvs, kept, l, B, fx⟩ := S
    obtain ⟨dx, hp⟩ := B.at'.ob
    have few := Nat.le_trans (liv_few B) few
    have hks : (lvV m.liv).map (·.1) = (m.liv.map (·.1)).map Sum.inl := by
      unfold lvV
      rw [List.map_map, List.map_map]
      rfl
    refine ⟨_, rfl, p, C, dx, _, _, rfl, hp, T.cl, T.aL, hl_living _ _ _ _ _ _ _ , dL, lvV m.liv, m.liv.map (·.1), rfl, .inl B.at'.li, hks, fun ys r pm pw hr' => ⟨r, rfl, ⟨_, sq_of upd_same⟩, fun D hD => ?_⟩⟩
    have ey : ys = m.liv.map (·.1) := pm.eq_of_pairwise (fun a b _ _ h1 h2 => by omega) pw ((List.pairwise_map.mpr B.lv).imp fun {a b} z => by omega)
    subst ey
    have x3 : Ex H (upd H r (.lst ((m.liv.map (·.1)).map V.int))) := Ex.new hr'
    generalize hH3 : upd H r (.lst ((m.liv.map (·.1)).map V.int)) = H3 at x3 hD
    have hr3 : H3 r = some (.lst ((m.liv.map (·.1)).map V.int)) := by rw [← hH3]; exact upd_same
    have B3 := B.keep (fun a o _ h => x3 a o h) (Kt.ex x3)
    refine lc_list (K := K) (a := r) (xs := (m.liv.map (·.1)).map V.int) (fun i G => ∃ us, Ex H3 G ∧ G D = some (.lst us) ∧ us.length ≤ i ∧ DpAll K (hid D G) us (hoD (m.liv.take i))) ⟨[], Ex.new hD, upd_same, Nat.le_refl _, .nil⟩ (fun i G _ h => ?_) (fun i x G hx h => ⟨rfl, ?_⟩) (fun G h => ?_)
    · obtain ⟨us, x4, _⟩ := h
      exact sq_of (x4 r _ hr3)
    · obtain ⟨us, x4, h4, ul, hu⟩ := h
      rw [List.map_map, List.getElem?_map] at hx
      obtain ⟨rr, hrr, rfl⟩ := Option.map_eq_some_iff.mp hx
      have hi : i < m.liv.length := (List.getElem?_eq_some_iff.mp hrr).1
      have hval := lv_val B.lv hrr
      have htk : m.liv.take (i + 1) = m.liv.take i ++ [rr] := by
        rw [List.take_succ, hrr]
        rfl
      have B4 := B3.keep (fun a o _ h => x4 a o h) (Kt.ex x4)
      obtain ⟨dx4, hp4⟩ := B4.at'.ob
      have hD1 : hoD (m.liv.take (i + 1)) = hoD (m.liv.take i) ++ hoD [rr] := by
        rw [htk]
        exact List.filterMap_append
      obtain ⟨kk, oo⟩ := rr
      refine ⟨_, rfl, p, C, dx4, _, _, rfl, hp4, T.cl, T.aL, hl_living _ _ _ _ _ _ _ , .int kk, rfl, dL, opV oo, rfl, by rw [← hval]; exact DGet.k (k := .inl kk) B4.at'.li, rfl, _, rfl, ?_⟩
      cases oo with
      | none =>
        show if (!decide ((V.non : V) = .non)) = true then _ else _
        rw [if_neg (by simp)]
        refine ⟨us, x4, h4, by omega, ?_⟩
        rw [hD1, show hoD [(kk, none)] = [] from rfl, List.append_nil]
        exact hu
      | some z =>
        show if (!decide ((V.int z : V) = .non)) = true then _ else _
        rw [if_pos (by simp)]
        refine ⟨.int kk, rfl, _, rfl, p, C, dx4, _, _, rfl, hp4, T.cl, T.aL, hl_living _ _ _ _ _ _ _ , .int kk, rfl, dL, .int z, rfl, by rw [show some (V.int z) = valV (lvV m.liv) (.inl kk) from hval.symm]; exact DGet.k (k := .inl kk) B4.at'.li, sz_of (by simp), fun t ht => ?_⟩
        have htD : t ≠ D := fun z => by
          rw [z, h4] at ht
          cases ht
        have x5 : Ex G (upd G t (.tup [.int kk, .int z])) := Ex.new ht
        refine ⟨us, x5 D _ h4, sz_lt (by omega), us ++ [.ref t], (x4.trans x5).mut hD, upd_same, by simp; omega, ?_⟩
        rw [hid_upd, hD1]
        exact dps_app (dps_same (ex_hid x5) _ _ hu) (.cons (dp_rowp (hid_at upd_same htD)) .nil)
    · obtain ⟨us, x4, h4, _, hu⟩ := h
      rw [List.length_map, List.length_map, List.take_length] at hu
      exact q D us G (fresh_back x3 hD) (x3.trans x4) h4 (dps_same (hid_same D G) _ _ hu)
set_option maxHeartbeats 1000000 in
theorem ok_lif {f C R : Addr} {fd : FuncData}  {k : Nat} (F : Fun K "life" "House.life" mLife f fd) (N : Names mg) (T : HTx K mg C)  : FnOk P w K mg base (L2N.CX P w) (k + 1) f fd ["self"] (spLif K C R) := by
  refine okN F smLife (fun vs H Q E h => ?_) (fun cdv A outer s H vs Q E hr h => ?_)
  · obtain ⟨p, m, X, rfl, _⟩ := h
    rfl
  · obtain ⟨p, m, X, rfl, S, few, q⟩ := h
    refine ⟨_, (pss_cons (ps_fldaug (pv 0) pe_int in_add)
      (pss_cons (ps_dput (hu_of hr) (pe_fld (pv 0) rfl) (pe_fld (pv 0) rfl) pe_non rfl)
      (pss_one (ps_ret (pe_fld (pv 0) rfl))))), ?_⟩
    obtain ⟨dW, dK, dL, dR, kvs, kept, l, B, fx⟩ := S
    obtain ⟨dx, hp⟩ := B.at'.ob
    refine s_seq ⟨_, rfl, p, C, dx, _, _, rfl, hp, T.cl, T.aG, hl_lives_given _ _ _ _ _ _ _ , (m.lg : Int), 1, rfl, rfl, dx, _, hp, by show 7 < 1000; decide, ?_⟩
    rw [hp_lives_given, show (m.lg : Int) + 1 = ((m.lg + 1 : Nat) : Int) from rfl]
    have B1 := B.counts (dx := dx) (lg := m.lg + 1) (bg := m.bg) (by omega) (Nat.le_refl _)
    have hp1 : (upd H p (.ins C dx (hfl dW dK m.fk ((m.lg + 1 : Nat) : Int) m.bg dL dR))) p = some (.ins C dx (hfl dW dK m.fk ((m.lg + 1 : Nat) : Int) m.bg dL dR)) := upd_same
    have off1 : ∀ a o, a ≠ p → H a = some o → (upd H p (.ins C dx (hfl dW dK m.fk ((m.lg + 1 : Nat) : Int) m.bg dL dR))) a = some o := fun a o n h => by rw [upd_ne n]; exact h
    generalize upd H p (.ins C dx (hfl dW dK m.fk ((m.lg + 1 : Nat) : Int) m.bg dL dR)) = H1 at B1 hp1 off1
    dsimp only
    refine s_seq ⟨_, rfl, p, C, dx, _, _, rfl, hp1, T.cl, T.aL, hl_living _ _ _ _ _ _ _ , _, rfl, p, C, dx, _, _, rfl, hp1, T.cl, T.aG, hl_lives_given _ _ _ _ _ _ _ , dL, _, rfl, DPut.k (k := .inl ((m.lg + 1 : Nat) : Int)) B1.at'.li (sz_lt (by unfold lvV; rw [List.length_map]; have := liv_few B; show m.liv.length < 100000; omega)), ?_⟩
    have new : putK (lvV m.liv) (.inl ((m.lg + 1 : Nat) : Int)) .non = lvV (m.liv ++ [((m.lg : Int) + 1, none)]) := by
      rw [putK_new _ (lv_none fun r mr => by have := B.lb r mr; omega)]
      unfold lvV
      rw [List.map_append]
      rfl
    have B2 := B1.lives (l2 := m.liv ++ [((m.lg : Int) + 1, none)]) (List.pairwise_append.mpr ⟨B.lv, List.pairwise_singleton _ _, fun x hx y hy => by rw [List.mem_singleton.mp hy]; have := B.lb x hx; show x.1 < (m.lg : Int) + 1; omega⟩) (fun r hr' => by
      rcases List.mem_append.mp hr' with h | h
      · have := B.lb r h
        exact ⟨this.1, by show r.1 ≤ ((m.lg + 1 : Nat) : Int); omega⟩
      · rw [List.mem_singleton.mp h]
        exact ⟨by show 1 ≤ (m.lg : Int) + 1; omega, Int.le_refl _⟩)
    show tRet (tFld K (tVar 0) "lives_given") _ _ (upd H1 dL (.dK (putK (lvV m.liv) (.inl ((m.lg + 1 : Nat) : Int)) .non)))
    rw [new]
    have off2 : ∀ a o, a ≠ dL → H1 a = some o → (upd H1 dL (.dK (lvV (m.liv ++ [((m.lg : Int) + 1, none)])))) a = some o := fun a o n h => by rw [upd_ne n]; exact h
    generalize upd H1 dL (.dK (lvV (m.liv ++ [((m.lg : Int) + 1, none)]))) = H2 at B2 off2
    obtain ⟨dx2, hp2⟩ := B2.at'.ob
    refine ⟨_, rfl, p, C, dx2, _, _, rfl, hp2, T.cl, T.aG, hl_lives_given _ _ _ _ _ _ _ , q H2 ⟨X, ⟨dW, dK, dL, dR, kvs, kept, l, B2, fx⟩, fun a o n h => off2 a o (fun z => n ((fx a).mpr (z ▸ fp_L))) (off1 a o (fun z => n ((fx a).mpr (z ▸ fp_p))) h), fun a h => .inl h⟩⟩
end
end K18
namespace K18
open PySem L2 PyProof.Rows Tc Evl
/-- the places held, with their lives -/
def hoP (l : List (Int × Option Int)) : List (Int × Int) := l.filterMap fun r => r.2.map fun z => (r.1, z)
theorem hoP_D (l : List (Int × Option Int)) : hoD l = (hoP l).map Tc.pairD := by
  unfold hoD hoP
  rw [List.map_filterMap]
  refine congrFun (congrArg _ (funext fun r => ?_)) l
  cases r.2 <;> rfl
def spTrim (K : PySem.W.Frag) (C R CP CH : Addr) : Sp := fun vs H Q E => ∃ (p : Addr) (m : HM) (X : Addr → Prop) (i : Int), vs = [.ref p, .int i] ∧ HsM K C R H p m X ∧ i.natAbs.log2 < 1920 ∧ m.lg ≤ 10000 ∧
  (¬ ((m.fk : Int) ≤ i ∧ i ≤ (m.fk : Int) + (m.log.length : Int)) → ∀ d H', H d = none → Ex H H' → H' d = some (.xd [("at", .int i)]) → E (.ref CP) (some d) H') ∧
  (((m.fk : Int) ≤ i ∧ i ≤ (m.fk : Int) + (m.log.length : Int)) → ∀ r, (hoP m.liv).find? (fun r => decide (r.2 < i)) = some r → ∀ d H', H d = none → Ex H H' → H' d = some (.xd [("who", .int r.1)]) → E (.ref CH) (some d) H') ∧
  (((m.fk : Int) ≤ i ∧ i ≤ (m.fk : Int) + (m.log.length : Int)) → (hoP m.liv).find? (fun r => decide (r.2 < i)) = none → ∀ H', HOut K C R H p X { m with log := m.log.drop (i - m.fk).toNat, fk := i.toNat } H' → Q .non H')
theorem set_put {l : List (Int × Option Int)} {k z : Int} (h : k ∈ l.map (·.1)) : putK (lvV l) (.inl k) (.int z) = lvV (setL l k z) := by
  unfold putK
  rw [if_pos (by rw [valV_any, lv_some]; exact decide_eq_true h)]
  unfold lvV setL
  rw [List.map_map, List.map_map]
  refine List.map_congr_left fun r _ => ?_
  show (if (Sum.inl r.1 : Key) = Sum.inl k then ((Sum.inl r.1 : Key), V.int z) else (Sum.inl r.1, opV r.2)) = (Sum.inl (if r.1 = k then (r.1, some z) else r).1, opV (if r.1 = k then (r.1, some z) else r).2)
  by_cases e : r.1 = k
  · rw [if_pos e, if_pos (by rw [e])]
    rfl
  · rw [if_neg e, if_neg fun y => e (Sum.inl.inj y)]
theorem set_keys (l : List (Int × Option Int)) (k z : Int) : (setL l k z).map (·.1) = l.map (·.1) := by
  unfold setL
  rw [List.map_map]
  refine List.map_congr_left fun r _ => ?_
  show (if r.1 = k then (r.1, some z) else r).1 = r.1
  split <;> rfl
theorem drop_run : ∀ (l : List (Rdg × Addr × Addr)) (k : Int), dropK (rnV l) (.inl k) = rnV (l.filter fun t => !decide (t.1.num = k))
  | [], _ => rfl
  | t :: l, k => by
    show dropK ((Sum.inl t.1.num, V.ref t.2.1) :: rnV l) (.inl k) = _
    by_cases e : t.1.num = k
    · rw [dropK_pos (by rw [e]), drop_run l k, List.filter_cons_of_neg (by rw [decide_eq_true e]; exact Bool.false_ne_true)]
    · rw [dropK_neg fun z => e (Sum.inl.inj z), drop_run l k, List.filter_cons_of_pos (by rw [decide_eq_false e]; rfl)]
      rfl
section
variable {P : Program} {w : World} {K : PySem.W.Frag} {mg : Str → Option Value} {base : Heap}
theorem cut_from (us : List V) (i : Nat) (hi : i ≤ us.length) : cutV us (some (i : Int)) none = us.drop i := by
  have e1 : HT.sIx us.length 0 (some (i : Int)) = i := by
    simp only [HT.sIx]
    split <;> omega
  have e2 : HT.sIx us.length us.length none = us.length := rfl
  unfold cutV
  rw [e1, e2, List.take_of_length_le (by rw [List.length_drop]; omega)]
theorem cut_to (us : List V) (m : Nat) : cutV us none (some (m : Int)) = us.take m := by
  have e1 : HT.sIx us.length us.length (some (m : Int)) = min m us.length := by
    simp only [HT.sIx]
    split <;> omega
  have e2 : HT.sIx us.length 0 none = 0 := rfl
  unfold cutV
  rw [e1, e2, List.drop_zero, Nat.sub_zero]
  rcases Nat.le_total m us.length with h | h
  · rw [Nat.min_eq_left h]
  · rw [Nat.min_eq_right h, List.take_length, List.take_of_length_le h]
set_option maxHeartbeats 1000000 in
theorem ok_ent {f C R : Addr} {fd : FuncData} {CP CT : Addr} {kP kE kE2 k : Nat} (F : Fun K "entries" "House.entries" mEntries f fd) (N : Names mg) (T : HTx K mg C) (dP : MethX P w K mg base C "places" ["self"] kP (spPls K C R)) (hP : kP ≤ k) (dE : OwnE P w K mg base "NoPlace" CP ["self", "at"] kE (spX1 CP "at")) (hE : kE + 1 ≤ k) (dE2 : OwnE P w K mg base "Trimmed" CT ["self", "at"] kE2 (spX1 CT "at")) (hE2 : kE2 + 1 ≤ k) : FnOk P w K mg base (L2N.CX P w) (k + 1) f fd ["self", "place", "many"] (spEnt K C R CP CT) := by
  refine okN F smEntries (fun vs H Q E h => ?_) (fun cdv A outer s H vs Q E hr h => ?_)
  · obtain ⟨p, m, X, i, n, rfl, _⟩ := h
    rfl
  · obtain ⟨p, m, X, i, n, rfl, S, hb, fkb, q1, q2, q3⟩ := h
    refine ⟨_, (pss_cons (ps_asg (pe_methX0 dP (L2N.takes_of rfl rfl rfl rfl) hr hP T.cl (pv 0)) (pg_tup rfl (pgs_cons (pg_name (i := 3) smEntries.nd rfl (.inl rfl)) (pgs_cons (pg_name (i := 4) smEntries.nd rfl (.inl rfl)) pgs_nil))))
      (pss_cons (ps_if (pt_cmpR op_gt (pv 1) (pv 4) (nomark _)) (pss_one (ps_raiseE dE rfl (L2N.takes_of rfl rfl rfl rfl) hr hE (by rfl) (pa_cons (pv 1) pa_nil))) pss_nil)
      (pss_cons (ps_if (pt_cmpR op_lt (pv 1) (pv 3) (nomark _)) (pss_one (ps_raiseE dE2 rfl (L2N.takes_of rfl rfl rfl rfl) hr hE2 (by rfl) (pa_cons (pv 3) pa_nil))) pss_nil)
      (pss_one (ps_ret (pe_slice sl_list (pe_slice sl_list (pe_fld (pv 0) rfl) (po_some (pe_op op_sub (pv 1) (pv 3))) po_none) po_none (po_some (pe_callB (call_max2 rfl) (by rfl) N.max boot_max (pa_cons pe_int (pa_cons (pv 2) pa_nil)))))))))), ?_⟩
    have S' := S
    obtain ⟨dW, dK, dL, dR, kvs, kept, l, B, fx⟩ := S'
    obtain ⟨dx, hp⟩ := B.at'.ob
    refine s_seq ⟨.ref p, rfl, p, dx, _, rfl, hp, (hfl_no _ _ _ _ _ _ _ (by decide +kernel)), p, m, X, rfl, S, fun t H1 ht x1 h1 => ?_⟩
    refine ⟨t, _, rfl, st_of h1, rfl, _, _, rfl, _, _, rfl, rfl, ?_⟩
    dsimp only
    refine s_seq (s_if (b := decide (i > (m.fk : Int) + (m.log.length : Int))) (et_test (ev_op (ev_var rfl) (ev_var rfl) rv_I0)) (fun z H2 x2 => ?_) fun z H2 x2 => s_next ?_)
    · exact raise_go (ea_cons (ev_var rfl) ea_nil) hb fun d H3 nd x3 h3 => q1 (of_decide_eq_true z) d H3 (fresh_back (x1.trans x2) nd) ((x1.trans x2).trans x3) h3
    have le : i ≤ (m.fk : Int) + (m.log.length : Int) := by
      have := of_decide_eq_false z
      omega
    dsimp only
    refine s_seq (s_if (b := decide (i < (m.fk : Int))) (et_test (ev_op (ev_var rfl) (ev_var rfl) rv_I0)) (fun z H3 x3 => ?_) fun z H3 x3 => s_next ?_)
    · have x13 := (x1.trans x2).trans x3
      exact raise_go (i := (m.fk : Int)) (ea_cons (ev_var rfl) ea_nil) (Tc.log_small (c := 0) (by decide) (by omega)) fun d H4 nd x4 h4 => q2 le (of_decide_eq_true z) d H4 (fresh_back x13 nd) (x13.trans x4) h4
    have ge : (m.fk : Int) ≤ i := by
      have := of_decide_eq_false z
      omega
    have x13 := (x1.trans x2).trans x3
    have B3 := B.keep (fun a o _ h => x13 a o h) (Kt.ex x13)
    obtain ⟨dx3, hp3⟩ := B3.at'.ob
    have kl := B.klen
    have e1 : i - (m.fk : Int) = ((i - m.fk).toNat : Int) := by omega
    refine ⟨_, rfl, p, C, dx3, _, _, rfl, hp3, T.cl, T.aK, hl_kept _ _ _ _ _ _ _ , _, rfl, _, rfl, _, _, rfl, rfl, _, rfl, dK, kept, rfl, sq_of B3.at'.ke, fun l1 hl1 => ?_⟩
    rw [e1, cut_from _ _ (by omega)]
    have x4 : Ex H3 (upd H3 l1 (.lst (kept.drop (i - m.fk).toNat))) := Ex.new hl1
    refine ⟨.int n, rfl, 0, n, rfl, (n.toNat : Int), ?_, l1, _, rfl, sq_of upd_same, fun l2 hl2 => ?_⟩
    · congr 1
      split <;> omega
    rw [cut_to]
    have xA := (x13.trans x4).trans (Ex.new (o := .lst ((kept.drop (i - m.fk).toNat).take n.toNat)) hl2)
    exact q3 le ge l2 _ _ (fresh_back (x13.trans x4) hl2) xA upd_same (dps_same xA _ _ (dps_take _ (dps_drop _ B.lo)))
set_option maxHeartbeats 1000000 in
theorem ok_hold {f C R : Addr} {fd : FuncData} {CL CP : Addr} {kL kKk k : Nat} (F : Fun K "hold" "House.hold" mHold f fd) (N : Names mg) (T : HTx K mg C) (dL : MethX P w K mg base C "check_life" ["self", "life"] kL (spCkl K C R CL)) (hL : kL ≤ k) (dKk : MethX P w K mg base C "check_kept" ["self", "place"] kKk (spCkk K C R CP)) (hKk : kKk ≤ k) : FnOk P w K mg base (L2N.CX P w) (k + 1) f fd ["self", "life", "place"] (spHold K C R CL CP) := by
  refine okN F smHold (fun vs H Q E h => ?_) (fun cdv A outer s H vs Q E hr h => ?_)
  · obtain ⟨p, m, X, i, z, rfl, _⟩ := h
    rfl
  · obtain ⟨p, m, X, i, z, rfl, S, hb, hz, few, q1, q2, q3⟩ := h
    refine ⟨_, (pss_cons (ps_expr (pe_methX dL (L2N.takes_of rfl rfl rfl rfl) hr hL T.cl (pv 0) (pa_cons (pv 1) pa_nil)))
      (pss_cons (ps_expr (pe_methX dKk (L2N.takes_of rfl rfl rfl rfl) hr hKk T.cl (pv 0) (pa_cons (pv 2) pa_nil)))
      (pss_one (ps_dput (hu_of hr) (pe_fld (pv 0) rfl) (pv 1) (pv 2) rfl)))), ?_⟩
    have S' := S
    obtain ⟨dW, dK, dL, dR, kvs, kept, l, B, fx⟩ := S'
    obtain ⟨dx, hp⟩ := B.at'.ob
    refine s_seq ⟨.ref p, rfl, p, dx, _, rfl, hp, (hfl_no _ _ _ _ _ _ _ (by decide +kernel)), .int i, rfl, p, m, X, i, rfl, S, hb, fun bad d H1 nd x1 h1 => q1 bad d H1 nd x1 h1, fun gi H1 x1 => ?_⟩
    refine s_seq ⟨.ref p, rfl, p, dx, _, rfl, x1 _ _ hp, (hfl_no _ _ _ _ _ _ _ (by decide +kernel)), .int z, rfl, p, m, X, z, rfl, S.ex x1, hz, fun bad d H2 nd x2 h2 => q2 gi bad d H2 (fresh_back x1 nd) (x1.trans x2) h2, fun gz H2 x2 => ?_⟩
    have x12 := x1.trans x2
    have B2 := B.keep (fun a o _ h => x12 a o h) (Kt.ex x12)
    dsimp only
    refine ⟨.int z, rfl, _, rfl, p, C, dx, _, _, rfl, x12 _ _ hp, T.cl, T.aL, hl_living _ _ _ _ _ _ _ , .int i, rfl, dL, _, rfl, DPut.k (k := .inl i) B2.at'.li (sz_lt (by unfold lvV; rw [List.length_map]; have := liv_few B; omega)), ?_⟩
    rw [set_put gi]
    have B3 := B2.lives (l2 := setL m.liv i z) (List.pairwise_map.mp (by rw [set_keys]; exact List.pairwise_map.mpr B.lv)) (fun r mr => by
      have h : r.1 ∈ (setL m.liv i z).map (·.1) := List.mem_map.mpr ⟨r, mr, rfl⟩
      rw [set_keys] at h
      obtain ⟨r', m', e⟩ := List.mem_map.mp h
      rw [← e]
      exact B.lb r' m')
    exact q3 gi gz _ ⟨X, ⟨dW, dK, dL, dR, kvs, kept, l, B3, fx⟩, fun a o n h => (upd_ne fun (y : a = dL) => n ((fx a).mpr (y ▸ fp_L))).trans (x12 _ _ h), fun a h => .inl h⟩
set_option maxHeartbeats 1000000 in
theorem ok_stop {f C R : Addr} {fd : FuncData} {CR : Addr} {kRo k : Nat} (F : Fun K "stop" "House.stop" mStop f fd) (N : Names mg) (T : HTx K mg C) (dRo : MethX P w K mg base C "running_one" ["self", "number"] kRo (spRone K C R CR)) (hRo : kRo ≤ k) : FnOk P w K mg base (L2N.CX P w) (k + 1) f fd ["self", "number"] (spStop K C R CR) := by
  refine okN F smStop (fun vs H Q E h => ?_) (fun cdv A outer s H vs Q E hr h => ?_)
  · obtain ⟨p, m, X, i, rfl, _⟩ := h
    rfl
  · obtain ⟨p, m, X, i, rfl, S, hb, q1, q2⟩ := h
    refine ⟨_, (pss_cons (ps_expr (pe_methX dRo (L2N.takes_of rfl rfl rfl rfl) hr hRo T.cl (pv 0) (pa_cons (pv 1) pa_nil)))
      (pss_one (ps_ddel (pe_fld (pv 0) rfl) (pv 1)))), ?_⟩
    obtain ⟨dW, dK, dL, dR, kvs, kept, l, B, fx⟩ := S
    obtain ⟨dx, hp⟩ := B.at'.ob
    refine s_seq ⟨.ref p, rfl, p, dx, _, rfl, hp, (hfl_no _ _ _ _ _ _ _ (by decide +kernel)), .int i, rfl, p, dW, dK, dL, dR, kvs, kept, l, m, i, rfl, B, hb, fun bad d H1 nd x1 h1 => q1 bad d H1 nd x1 h1, fun t mt et H1 x1 => ?_⟩
    have B1 := B.keep (fun a o _ h => x1 a o h) (Kt.ex x1)
    have gi : i ∈ m.run.map (·.num) := by
      rw [← B.nums]
      exact List.mem_map.mpr ⟨t, mt, et⟩
    dsimp only
    refine ⟨_, rfl, p, C, dx, _, _, rfl, x1 _ _ hp, T.cl, T.aR, hl_running _ _ _ _ _ _ _ , .int i, rfl, dR, _, .inl i, rfl, B1.at'.ru, rfl, by rw [rn_some, B.nums]; exact decide_eq_true gi, ?_⟩
    rw [drop_run]
    have B2 := B1.rdel (l2 := l.filter fun t => !decide (t.1.num = i)) List.filter_sublist
    have er : (l.filter fun t => !decide (t.1.num = i)).map (·.1) = m.run.filter fun x => !decide (x.num = i) := by
      rw [← B.rn, List.filter_map]
      rfl
    rw [er] at B2
    refine q2 gi _ ⟨fun a => a ∈ fpL p dW dK dL dR (l.filter fun t => !decide (t.1.num = i)), ⟨dW, dK, dL, dR, kvs, kept, _, B2, fun a => Iff.rfl⟩, fun a o n h => (upd_ne fun (y : a = dR) => n ((fx a).mpr (y ▸ fp_R))).trans (x1 _ _ h), fun a h => .inl ((fx a).mpr ((fp_sub List.filter_sublist).subset h))⟩
set_option maxHeartbeats 1000000 in
theorem ok_trim {f C R : Addr} {fd : FuncData} {CP CH : Addr} {kKk kHo kE k : Nat} (F : Fun K "trim" "House.trim" mTrim f fd) (N : Names mg) (T : HTx K mg C) (dKk : MethX P w K mg base C "check_kept" ["self", "place"] kKk (spCkk K C R CP)) (hKk : kKk ≤ k) (dHo : MethX P w K mg base C "holds" ["self"] kHo (spHos K C R)) (hHo : kHo ≤ k) (dE : OwnE P w K mg base "Held" CH ["self", "who"] kE (spX1 CH "who")) (hE : kE + 1 ≤ k) : FnOk P w K mg base (L2N.CX P w) (k + 1) f fd ["self", "place"] (spTrim K C R CP CH) := by
  refine okN F smTrim (fun vs H Q E h => ?_) (fun cdv A outer s H vs Q E hr h => ?_)
  · obtain ⟨p, m, X, i, rfl, _⟩ := h
    rfl
  · obtain ⟨p, m, X, i, rfl, S, hb, few, q1, q2, q3⟩ := h
    refine ⟨_, (pss_cons (ps_expr (pe_methX dKk (L2N.takes_of rfl rfl rfl rfl) hr hKk T.cl (pv 0) (pa_cons (pv 1) pa_nil)))
      (pss_cons (ps_for (passes_of rfl) rfl (pi_list (pe_methX0 dHo (L2N.takes_of rfl rfl rfl rfl) hr hHo T.cl (pv 0))) (pg_tup rfl (pgs_cons (pg_name (i := 2) smTrim.nd rfl (.inl rfl)) (pgs_cons (pg_name (i := 3) smTrim.nd rfl (.inl rfl)) pgs_nil))) (pss_one (ps_if (pt_cmpR op_lt (pv 3) (pv 1) (nomark _)) (pss_one (ps_raiseE dE rfl (L2N.takes_of rfl rfl rfl rfl) hr hE (by rfl) (pa_cons (pv 2) pa_nil))) pss_nil)))
      (pss_cons (ps_fld (pv 0) (pe_slice sl_list (pe_fld (pv 0) rfl) (po_some (pe_op op_sub (pv 1) (pe_fld (pv 0) rfl))) po_none) rfl)
      (pss_one (ps_fld (pv 0) (pv 1) rfl))))), ?_⟩
    have S' := S
    obtain ⟨dW, dK, dL, dR, kvs, kept, l, B, fx⟩ := S'
    obtain ⟨dx, hp⟩ := B.at'.ob
    refine s_seq ⟨.ref p, rfl, p, dx, _, rfl, hp, (hfl_no _ _ _ _ _ _ _ (by decide +kernel)), .int i, rfl, p, m, X, i, rfl, S, hb, fun bad d H1 nd x1 h1 => q1 bad d H1 nd x1 h1, fun gi H1 x1 => ?_⟩
    replace q2 := q2 gi
    replace q3 := q3 gi
    refine s_seq ⟨.ref p, rfl, p, dx, _, rfl, x1 _ _ hp, (hfl_no _ _ _ _ _ _ _ (by decide +kernel)), p, m, X, rfl, S.ex x1, few, fun t us H2 nt x2 h2 du => ⟨t, rfl, ⟨_, sq_of h2⟩, ?_⟩⟩
    rw [hoP_D] at du
    have ul := dps_len du
    rw [List.length_map] at ul
    have x12 := x1.trans x2
    refine for_list (K := K) (a := t) (xs := us) (fun j σ' G => ∃ z2 z3, σ' = [some (.ref p), some (.int i), z2, z3] ∧ Ex H2 G ∧ ∀ r ∈ (hoP m.liv).take j, i ≤ r.2) ⟨none, none, rfl, Ex.refl _, fun r mr => by cases mr⟩ (fun j σ' G _ h => ?_) (fun j x σ' G hx h => ?_) (fun σ' G h => ?_)
    · obtain ⟨_, _, _, xG, _⟩ := h
      exact sq_of (xG _ _ h2)
    · obtain ⟨z2, z3, rfl, xG, no⟩ := h
      obtain ⟨d, hd, hxd⟩ := dps_at (dps_same xG _ _ du) hx
      rw [List.getElem?_map] at hd
      obtain ⟨r, hr', rfl⟩ := Option.map_eq_some_iff.mp hd
      obtain ⟨pa, u0, u1, rfl, ht, h0, h1⟩ := dpt2 hxd
      cases h0
      cases h1
      refine ⟨pa, _, rfl, ht, rfl, _, _, rfl, _, _, rfl, rfl, ?_⟩
      dsimp only
      have htk : (hoP m.liv).take (j + 1) = (hoP m.liv).take j ++ [r] := by
        rw [List.take_succ, hr']
        rfl
      refine s_if (b := decide (r.2 < i)) (et_test (ev_op (ev_var rfl) (ev_var rfl) rv_I0)) (fun z G1 y1 => ?_) fun z G1 y1 => s_next ⟨_, _, rfl, xG.trans y1, fun r' mr' => ?_⟩
      · have xA := x12.trans (xG.trans y1)
        have hlv : r.1.natAbs.log2 < 1920 := by
          obtain ⟨q', mq, e⟩ := List.mem_filterMap.mp (List.mem_of_getElem? hr')
          have hb := B.lb q' mq
          obtain ⟨z', _, e'⟩ := Option.map_eq_some_iff.mp e
          rw [← e']
          exact Tc.log_small (c := 0) (by decide) (by show q'.1.natAbs ≤ _; omega)
        refine raise_go (i := r.1) (ea_cons (ev_var rfl) ea_nil) hlv fun d H4 nd x4 h4 => q2 r ?_ d H4 (fresh_back xA nd) (xA.trans x4) h4
        have hj := List.getElem?_eq_some_iff.mp hr'
        obtain ⟨hj1, hj2⟩ := hj
        have e : hoP m.liv = (hoP m.liv).take j ++ r :: (hoP m.liv).drop (j + 1) := by
          rw [← hj2, ← List.drop_eq_getElem_cons hj1, List.take_append_drop]
        rw [e, List.find?_append, List.find?_eq_none.mpr (fun r' mr' => by
          have := no r' mr'
          simp only [decide_eq_true_eq]
          omega)]
        rw [List.find?_cons_of_pos (by exact z)]
        rfl
      · rw [htk] at mr'
        rcases List.mem_append.mp mr' with h | h
        · exact no r' h
        · rw [List.mem_singleton.mp h]
          have := of_decide_eq_false z
          omega
    · obtain ⟨z2, z3, rfl, xG, no⟩ := h
      rw [ul, List.take_length] at no
      have fn : (hoP m.liv).find? (fun r => decide (r.2 < i)) = none := List.find?_eq_none.mpr fun r mr => by
        have := no r mr
        simp only [decide_eq_true_eq]
        omega
      have xA := x12.trans xG
      have B3 := B.keep (fun a o _ h => xA a o h) (Kt.ex xA)
      obtain ⟨dx3, hp3⟩ := B3.at'.ob
      have e1 : i - (m.fk : Int) = ((i - m.fk).toNat : Int) := by omega
      have kl := B.klen
      dsimp only
      refine s_seq ⟨_, rfl, p, C, dx3, _, _, rfl, hp3, T.cl, T.aK, hl_kept _ _ _ _ _ _ _ , .int i, rfl, _, rfl, p, C, dx3, _, _, rfl, hp3, T.cl, T.aF, hl_first_kept _ _ _ _ _ _ _ , _, _, rfl, rfl, _, rfl, dK, kept, rfl, sq_of B3.at'.ke, fun l1 hl1 => ?_⟩
      rw [e1, cut_from _ _ (by omega)]
      have x4 : Ex G (upd G l1 (.lst (kept.drop (i - m.fk).toNat))) := Ex.new hl1
      have h4 : (upd G l1 (.lst (kept.drop (i - m.fk).toNat))) l1 = some (.lst (kept.drop (i - m.fk).toNat)) := upd_same
      have n1 : l1 ∉ fpL p dW dK dL dR l := fun z => by
        obtain ⟨o, ho, _⟩ := B3.noT _ z
        rw [hl1] at ho
        cases ho
      generalize upd G l1 (.lst (kept.drop (i - m.fk).toNat)) = G4 at x4 h4
      have B4 := B3.keep (fun a o _ h => x4 a o h) (Kt.ex x4)
      refine ⟨_, rfl, p, C, dx3, _, rfl, x4 _ _ hp3, T.cl, T.aK, by show 7 < 1000; decide, ?_⟩
      rw [hp_kept]
      dsimp only
      refine ⟨.int i, rfl, .ref p, rfl, p, C, dx3, _, rfl, upd_same, T.cl, T.aF, by show 7 < 1000; decide, ?_⟩
      rw [hp_first_kept, upd_upd, show i = ((i.toNat : Nat) : Int) by omega]
      have B5 := B4.keptn (dx := dx3) (fk' := i.toNat) h4 (dps_drop (i - m.fk).toNat B4.lo) (fun d md => B4.go d (List.mem_of_mem_drop md)) n1
      have e2 : ((i.toNat : Nat) : Int) = i := by omega
      have q3' := q3 fn
      rw [e2]
      rw [e2] at B5
      refine q3' _ ⟨fun a => a ∈ fpL p dW l1 dL dR l, ⟨dW, l1, dL, dR, kvs, _, l, B5, fun a => Iff.rfl⟩, fun a o n h => ?_, fun a h => ?_⟩
      · exact (upd_ne fun (y : a = p) => n ((fx a).mpr (y ▸ fp_p))).trans (x4 _ _ (xA _ _ h))
      · by_cases e : a = l1
        · exact .inr (e ▸ fresh_back xA hl1)
        · refine .inl ((fx a).mpr ?_)
          unfold fpL at h ⊢
          simp only [List.mem_cons] at h ⊢
          rcases h with h | h | h | h | h | h
          · exact .inl h
          · exact .inr (.inl h)
          · exact absurd h e
          · exact .inr (.inr (.inr (.inl h)))
          · exact .inr (.inr (.inr (.inr (.inl h))))
          · exact .inr (.inr (.inr (.inr (.inr h))))
end
end K18
/-! a dict comprehension over items; the looks of a reading -/
namespace Tc
open PySem L2 Evl
theorem dc_items {d : Addr} {o : Obj} {kvs : List (Key × V)} {g : TG} {tt : TT} {tk tv : TE} {own : List Nat} {σ : L2.St} {H1 : Hp} {D : Addr} {Fin : Hp → Prop} (Pv : Nat → Hp → Prop) (h0 : Pv 0 (upd H1 D (.dK []))) (hl : ∀ j G, j ≤ kvs.length → Pv j G → G d = some (.frz o (.dK kvs)))
    (hs : ∀ j k v G T, kvs[j]? = some (k, v) → Pv j G → G T = none → g (.ref T) (wipe σ own) (upd G T (.tup [kV k, v])) fun τ G2 => wipe τ own = wipe σ own ∧ tt τ G2 fun c G3 => if c = true then (tk τ G3 fun y G4 => tv τ G4 fun z G5 => ∃ acc key, y = kV key ∧ G5 D = some (.dK acc) ∧ acc.length < sizeLine ∧ Pv (j + 1) (upd G5 D (.dK (putK acc key z)))) else Pv (j + 1) G3) (hd : ∀ G, Pv kvs.length G → Fin G) :
    ∃ R : Nat → Nat → Hp → Prop, (∃ n, R 0 n (upd H1 D (.dK []))) ∧ ∀ j n G, R j n G → ((Iti d o kvs).stop j G ∧ Fin G) ∨ ((Iti d o kvs).go j G ∧ ∃ On : Hp → Prop, (∀ G', On G' → ∃ n', n' < n ∧ R (j + 1) n' G') ∧
      ∀ x G', (Iti d o kvs).yld j G x G' → g x (wipe σ own) G' fun τ G2 => wipe τ own = wipe σ own ∧ tt τ G2 fun c G3 => if c = true then (tk τ G3 fun y G4 => tv τ G4 fun z G5 => ∃ acc key, y = kV key ∧ G5 D = some (.dK acc) ∧ acc.length < sizeLine ∧ On (upd G5 D (.dK (putK acc key z)))) else On G3) := by
  refine ⟨fun j n G => j ≤ kvs.length ∧ n = kvs.length - j ∧ Pv j G, ⟨_, Nat.zero_le _, rfl, h0⟩, ?_⟩
  intro j n G ⟨hj, en, p⟩
  have at1 := hl j G hj p
  rcases Nat.lt_or_ge j kvs.length with lt | ge
  · refine .inr ⟨⟨at1, lt⟩, Pv (j + 1), fun G' p' => ⟨kvs.length - (j + 1), by omega, by omega, rfl, p'⟩, ?_⟩
    rintro x G' ⟨T, k, v, e, rfl, nT, rfl⟩
    exact hs j k v _ T e p nT
  · have e : j = kvs.length := Nat.le_antisymm hj ge
    subst e
    exact .inl ⟨⟨at1, Nat.le_refl _⟩, hd G p⟩
/-- the first of n keys from a on that has a worth -/
def firstN (f : Int → Option Int) : Nat → Int → Option (Int × Int)
  | 0, _ => none
  | n + 1, a => match f a with
    | some z => some (a, z)
    | none => firstN f n (a + 1)
def firstIn (f : Int → Option Int) (a b : Int) : Option (Int × Int) := firstN f (b - a).toNat a
theorem firstN_in {f : Int → Option Int} : ∀ {n : Nat} {a : Int} {r : Int × Int}, firstN f n a = some r → a ≤ r.1 ∧ r.1 < a + n ∧ f r.1 = some r.2
  | 0, _, _, h => by cases h
  | n + 1, a, r, h => by
    unfold firstN at h
    split at h
    · rename_i z e
      cases h
      exact ⟨Int.le_refl _, by omega, e⟩
    · have := firstN_in h
      exact ⟨by omega, by omega, this.2.2⟩
/-- where the next look begins -/
def nextOf (x : Rdg) : Int := match x.found.getLast? with
  | some r => r.1 + 1
  | none => x.lo
def look1 (f : Int → Option Int) (x : Rdg) : Rdg := match firstIn f (nextOf x) x.hi with
  | some r => { x with found := x.found ++ [r] }
  | none => { x with ended := true }
def lookN (f : Int → Option Int) : Nat → Rdg → Rdg
  | 0, x => x
  | n + 1, x => let y := lookN f n x; if y.ended then y else look1 f y
theorem look1_num (f : Int → Option Int) (x : Rdg) : (look1 f x).num = x.num ∧ (look1 f x).own = x.own ∧ (look1 f x).lo = x.lo ∧ (look1 f x).hi = x.hi := by
  unfold look1
  split <;> exact ⟨rfl, rfl, rfl, rfl⟩
theorem next_in {x : Rdg} (h : RgOk x) : 0 ≤ nextOf x ∧ nextOf x ≤ 1000 := by
  unfold nextOf
  split
  · rename_i r e
    have := h.f r (List.mem_of_getLast? e)
    omega
  · have := h.a
    have := h.b
    have := h.c
    omega
theorem next_gt {x : Rdg} (h : RgOk x) : ∀ r ∈ x.found, r.1 < nextOf x := fun r m => by
  by_cases e : x.found = []
  · rw [e] at m
    cases m
  · have es : x.found = x.found.dropLast ++ [x.found.getLast e] := (List.dropLast_concat_getLast e).symm
    have nx : nextOf x = (x.found.getLast e).1 + 1 := by
      unfold nextOf
      rw [List.getLast?_eq_some_getLast e]
    have pw := h.g
    rw [es] at pw m
    have p := (List.pairwise_append.mp pw).2.2
    rcases List.mem_append.mp m with m | m
    · have := p r m _ (List.mem_singleton.mpr rfl)
      omega
    · rw [List.mem_singleton.mp m]
      omega
theorem RgOk.len {x : Rdg} (h : RgOk x) : x.found.length ≤ 1000 := by
  have nd : (x.found.map (·.1)).Nodup := (List.pairwise_map.mpr h.g).imp fun {a b} z e => by omega
  have := len_sub (m := allKs) nd fun k m => by
    obtain ⟨r, mr, rfl⟩ := List.mem_map.mp m
    have := h.f r mr
    exact allKs_mem this.1 this.2
  rw [List.length_map, allKs_len] at this
  exact this
theorem look1_ok {f : Int → Option Int} {x : Rdg} (h : RgOk x) : RgOk (look1 f x) := by
  unfold look1
  split
  · rename_i r e
    refine ⟨h.a, h.b, h.c, fun q m => ?_, List.pairwise_append.mpr ⟨h.g, List.pairwise_singleton _ _, fun q m y hy => ?_⟩⟩
    rotate_left
    · rw [List.mem_singleton.mp hy]
      have i := firstN_in e
      have := next_gt h q m
      omega
    rcases List.mem_append.mp m with m | m
    · exact h.f q m
    · rw [List.mem_singleton.mp m]
      have i := firstN_in e
      have n := next_in h
      have := h.c
      constructor
      · omega
      · by_cases g : nextOf x ≤ x.hi
        · omega
        · have e0 : (x.hi - nextOf x).toNat = 0 := by omega
          rw [firstIn, e0] at e
          cases e
  · exact ⟨h.a, h.b, h.c, h.f, h.g⟩
theorem lookN_num (f : Int → Option Int) : ∀ (n : Nat) (x : Rdg), (lookN f n x).num = x.num ∧ (lookN f n x).own = x.own ∧ (lookN f n x).lo = x.lo ∧ (lookN f n x).hi = x.hi
  | 0, x => ⟨rfl, rfl, rfl, rfl⟩
  | n + 1, x => by
    have ih := lookN_num f n x
    unfold lookN
    dsimp only
    split
    · exact ih
    · have := look1_num f (lookN f n x)
      exact ⟨this.1.trans ih.1, this.2.1.trans ih.2.1, this.2.2.1.trans ih.2.2.1, this.2.2.2.trans ih.2.2.2⟩
theorem lookN_ok {f : Int → Option Int} : ∀ (n : Nat) {x : Rdg}, RgOk x → RgOk (lookN f n x)
  | 0, _, h => h
  | n + 1, x, h => by
    have ih := lookN_ok (f := f) n h
    unfold lookN
    dsimp only
    split
    · exact ih
    · exact look1_ok ih
/-- a reading as it is told -/
def rdD (x : Rdg) : PyData := .tuple [.int x.num, .int x.own, .tuple [.int x.lo, .int x.hi], rowsD x.found, .bool x.ended]
end Tc
namespace K18
open PySem L2 PyProof.Rows Tc Evl
def spLeave (K : PySem.W.Frag) (C R CL : Addr) : Sp := fun vs H Q E => ∃ (p : Addr) (m : HM) (X : Addr → Prop) (i : Int), vs = [.ref p, .int i] ∧ HsM K C R H p m X ∧ i.natAbs.log2 < 1920 ∧ m.bg ≤ 10000 ∧
  (i ∉ m.liv.map (·.1) → ∀ d H', H d = none → Ex H H' → H' d = some (.xd [("who", .int i)]) → E (.ref CL) (some d) H') ∧
  (i ∈ m.liv.map (·.1) → ∀ H', HOut K C R H p X { m with liv := m.liv.filter (fun r => !decide (r.1 = i)), run := m.run.filter (fun x => !decide (x.own = i)) } H' → Q .non H')
theorem drop_liv : ∀ (l : List (Int × Option Int)) (k : Int), dropK (lvV l) (.inl k) = lvV (l.filter fun r => !decide (r.1 = k))
  | [], _ => rfl
  | t :: l, k => by
    show dropK ((Sum.inl t.1, opV t.2) :: lvV l) (.inl k) = _
    by_cases e : t.1 = k
    · rw [dropK_pos (by rw [e]), drop_liv l k, List.filter_cons_of_neg (by rw [decide_eq_true e]; exact Bool.false_ne_true)]
    · rw [dropK_neg fun z => e (Sum.inl.inj z), drop_liv l k, List.filter_cons_of_pos (by rw [decide_eq_false e]; rfl)]
      rfl
theorem run_few {K : PySem.W.Frag} {C R : Addr} {H : Hp} {p dW dK dL dR : Addr} {kvs : List (Key × V)} {kept : List V} {l : List (Rdg × Addr × Addr)} {m : HM} (S : HsB K C R H p dW dK dL dR kvs kept l m) : l.length ≤ m.bg := by
  have h : (m.run.map (·.num)).Nodup := (List.pairwise_map.mpr S.rp).imp fun {a b} z e => by omega
  have := len_sub (m := (List.range m.bg).map fun (i : Nat) => (i : Int)) h fun x hx => by
    obtain ⟨r, mr, rfl⟩ := List.mem_map.mp hx
    have := S.rb r mr
    exact List.mem_map.mpr ⟨r.num.toNat, List.mem_range.mpr (by omega), by omega⟩
  rw [List.length_map, List.length_map, List.length_range, ← S.rn, List.length_map] at this
  exact this
section
variable {P : Program} {w : World} {K : PySem.W.Frag} {mg : Str → Option Value} {base : Heap}
set_option maxHeartbeats 2000000 in
theorem ok_leave {f C R : Addr} {fd : FuncData} {CL : Addr} {kL k : Nat} (F : Fun K "leave" "House.leave" mLeave f fd) (N : Names mg) (T : HTx K mg C) (RT : RTx K mg R) (dL : MethX P w K mg base C "check_life" ["self", "life"] kL (spCkl K C R CL)) (hL : kL ≤ k) : FnOk P w K mg base (L2N.CX P w) (k + 1) f fd ["self", "life"] (spLeave K C R CL) := by
  refine okN F smLeave (fun vs H Q E h => ?_) (fun cdv A outer s H vs Q E hr h => ?_)
  · obtain ⟨p, m, X, i, rfl, _⟩ := h
    rfl
  · obtain ⟨p, m, X, i, rfl, S, hb, few, q1, q2⟩ := h
    refine ⟨_, (pss_cons (ps_expr (pe_methX dL (L2N.takes_of rfl rfl rfl rfl) hr hL T.cl (pv 0) (pa_cons (pv 1) pa_nil)))
      (pss_cons (ps_ddel (pe_fld (pv 0) rfl) (pv 1))
      (pss_one (ps_fld (pv 0) (pe_lock (pe_dc (own := [("number", 2), ("reading", 3)]) (g := gTup K 2 (gCons (gName 2) (gCons (gName 3) gNil))) (tt := (tTest (tOp rNe (tFld K (tVar 3) "owner") (tVar 1)))) (tk := tVar 2) (tv := tVar 3) rfl smLeave.nd (pi_items (pe_fld (pv 0) rfl)) (blkOk_by (N := ["self", "life", "number", "reading"]) (sc := defScope mLeave) (by decide +kernel)) (fun _ _ _ _ _ => pg_tup rfl (pgs_cons (pg_name (i := 2) smLeave.nd rfl (Or.inl rfl)) (pgs_cons (pg_name (i := 3) smLeave.nd rfl (Or.inl rfl)) pgs_nil))) (fun _ _ _ _ _ => pts_one (pt_cmpR op_ne (pe_fld (pv 3) rfl) (pv 1) (nomark _))) (fun _ _ _ _ _ => pv 2) (fun _ _ _ _ _ => pv 3))) rfl)))), ?_⟩
    have S' := S
    obtain ⟨dW, dK, dL, dR, kvs, kept, l, B, fx⟩ := S'
    obtain ⟨dx, hp⟩ := B.at'.ob
    refine s_seq ⟨.ref p, rfl, p, dx, _, rfl, hp, (hfl_no _ _ _ _ _ _ _ (by decide +kernel)), .int i, rfl, p, m, X, i, rfl, S, hb, fun bad d H1 nd x1 h1 => q1 bad d H1 nd x1 h1, fun gi H1 x1 => ?_⟩
    have B1 := B.keep (fun a o _ h => x1 a o h) (Kt.ex x1)
    dsimp only
    refine s_seq ⟨_, rfl, p, C, dx, _, _, rfl, x1 _ _ hp, T.cl, T.aL, hl_living _ _ _ _ _ _ _ , .int i, rfl, dL, _, .inl i, rfl, B1.at'.li, rfl, by rw [lv_some]; exact decide_eq_true gi, ?_⟩
    rw [drop_liv]
    have B2 := B1.lives (l2 := m.liv.filter fun r => !decide (r.1 = i)) (B.lv.sublist List.filter_sublist) (fun r mr => B.lb r (List.filter_sublist.subset mr))
    have off2 : ∀ a o, a ≠ dL → H1 a = some o → (upd H1 dL (.dK (lvV (m.liv.filter fun r => !decide (r.1 = i))))) a = some o := fun a o n h => by rw [upd_ne n]; exact h
    generalize upd H1 dL (.dK (lvV (m.liv.filter fun r => !decide (r.1 = i)))) = H2 at B2 off2
    obtain ⟨dx2, hp2⟩ := B2.at'.ob
    have A := B2.apart
    dsimp only
    refine ⟨dR, .dK (rnV l), B2.at'.ru, True.intro, fun od => ?_⟩
    have offL : ∀ a o, a ≠ dR → H2 a = some o → (upd H2 dR (.frz od (.dK (rnV l)))) a = some o := fun a o n h => by rw [upd_ne n]; exact h
    have hL : (upd H2 dR (.frz od (.dK (rnV l)))) dR = some (.frz od (.dK (rnV l))) := upd_same
    generalize hHL : upd H2 dR (.frz od (.dK (rnV l))) = HL at offL hL
    refine ⟨_, rfl, p, C, dx2, _, _, rfl, offL _ _ A.pR hp2, T.cl, T.aR, hl_running _ _ _ _ _ _ _ , dR, od, rnV l, rfl, hL, fun D nD => ?_⟩
    have nD2 : H2 D = none := by
      cases e : H2 D with
      | none => rfl
      | some o =>
        by_cases z : D = dR
        · rw [z, hL] at nD
          cases nD
        · rw [offL _ _ z e] at nD
          cases nD
    have DR : D ≠ dR := fun z => by
      rw [z, hL] at nD
      cases nD
    refine dc_items (kvs := rnV l) (fun j G => G D = some (.dK (rnV ((l.take j).filter fun t => !decide (t.1.own = i)))) ∧ ∀ a o, a ≠ D → HL a = some o → G a = some o) ⟨upd_same, fun a o n h => by rw [upd_ne n]; exact h⟩ (fun j G _ h => h.2 _ _ DR.symm hL) (fun j k v G tp hj h nT => ?_) (fun G h => ?_)
    · obtain ⟨hD, keep⟩ := h
      have ht' : ∃ t, l[j]? = some t ∧ k = .inl t.1.num ∧ v = .ref t.2.1 := by
        unfold rnV at hj
        rw [List.getElem?_map] at hj
        obtain ⟨t, ht, e⟩ := Option.map_eq_some_iff.mp hj
        cases e
        exact ⟨t, ht, rfl, rfl⟩
      obtain ⟨t, ht, rfl, rfl⟩ := ht'
      have mt := List.mem_of_getElem? ht
      have tD : tp ≠ D := fun z => by
        rw [z, hD] at nT
        cases nT
      have x3 : Ex G (upd G tp (.tup [kV (.inl t.1.num), .ref t.2.1])) := Ex.new nT
      have h3 : (upd G tp (.tup [kV (.inl t.1.num), .ref t.2.1])) tp = some (.tup [.int t.1.num, .ref t.2.1]) := upd_same
      generalize upd G tp (.tup [kV (.inl t.1.num), .ref t.2.1]) = G3 at x3 h3
      have hD3 := x3 _ _ hD
      have keep3 : ∀ a o, a ≠ D → HL a = some o → G3 a = some o := fun a o n h => x3 _ _ (keep a o n h)
      obtain ⟨⟨rdx, rst, hr1, _⟩, _⟩ := B2.rd t mt
      have rR : t.2.1 ≠ dR := (A.r1 t mt).2.2.2.2
      have rD : t.2.1 ≠ D := fun z => by
        rw [z, nD2] at hr1
        cases hr1
      have hr3 := keep3 _ _ rD (offL _ _ rR hr1)
      have htk : l.take (j + 1) = l.take j ++ [t] := by
        rw [List.take_succ, ht]
        rfl
      refine ⟨tp, _, rfl, st_of h3, rfl, _, _, rfl, _, _, rfl, rfl, rfl, ?_⟩
      refine ⟨_, rfl, t.2.1, R, rdx, _, _, rfl, hr3, RT.cl, RT.aO, rl_owner _ _ _ _, .int i, rfl, rfl, _, rfl, ?_⟩
      dsimp only
      by_cases e : t.1.own = i
      · rw [if_neg (by rw [e]; simp)]
        refine ⟨?_, keep3⟩
        rw [htk, List.filter_append, List.filter_cons_of_neg (by rw [decide_eq_true e]; exact Bool.false_ne_true), List.filter_nil, List.append_nil]
        exact hD3
      · rw [if_pos (by rw [decide_eq_false fun z => e (V.int.inj z)]; rfl)]
        refine ⟨.int t.1.num, rfl, .ref t.2.1, rfl, _, .inl t.1.num, rfl, hD3, sz_lt ?_, ?_, fun a o n h => by rw [upd_ne n]; exact keep3 a o n h⟩
        · unfold rnV
          rw [List.length_map]
          have := run_few B
          have h1 := List.length_filter_le (fun t : Rdg × Addr × Addr => !decide (t.1.own = i)) (l.take j)
          have h2 : (l.take j).length ≤ l.length := by rw [List.length_take]; omega
          omega
        · rw [upd_same, htk, List.filter_append, List.filter_cons_of_pos (by rw [decide_eq_false e]; rfl), List.filter_nil]
          rw [putK_new]
          · unfold rnV
            rw [List.map_append]
            rfl
          · have hs := rn_some ((l.take j).filter fun t => !decide (t.1.own = i)) t.1.num
            rw [decide_eq_false fun z => by
              obtain ⟨u, mu, eu⟩ := List.mem_map.mp z
              have lp := B.lp
              rw [← List.take_append_drop j l] at lp
              obtain ⟨hj1, hj2⟩ := List.getElem?_eq_some_iff.mp ht
              have md : t ∈ l.drop j := by
                rw [List.drop_eq_getElem_cons hj1, hj2]
                exact List.mem_cons_self
              have := (List.pairwise_append.mp lp).2.2 u (List.filter_sublist.subset mu) t md
              omega] at hs
            exact Option.isNone_iff_eq_none.mp (by rw [← Option.not_isSome, hs]; rfl)
    · obtain ⟨hD, keep⟩ := h
      have el : (rnV l).length = l.length := by
        unfold rnV
        rw [List.length_map]
      rw [el, List.take_length] at hD
      refine ⟨keep _ _ DR.symm hL, ?_⟩
      have offE : ∀ a o, H2 a = some o → (upd G dR (.dK (rnV l))) a = some o := fun a o h => by
        by_cases z : a = dR
        · rw [z, upd_same]
          rw [z, B2.at'.ru] at h
          exact h
        · rw [upd_ne z]
          have aD : a ≠ D := fun y => by
            rw [y, nD2] at h
            cases h
          exact keep _ _ aD (offL _ _ z h)
      have hDE : (upd G dR (.dK (rnV l))) D = some (.dK (rnV (l.filter fun t => !decide (t.1.own = i)))) := by
        rw [upd_ne DR]
        exact hD
      generalize upd G dR (.dK (rnV l)) = GE at offE hDE
      have xE : Ex H2 GE := offE
      have B3 := B2.keep (fun a o _ h => xE a o h) (Kt.ex xE)
      refine ⟨.ref p, rfl, p, C, dx2, _, rfl, xE _ _ hp2, T.cl, T.aR, by show 7 < 1000; decide, ?_⟩
      rw [hp_running]
      have nf : D ∉ fpL p dW dK dL dR l := fun z => by
        obtain ⟨o, ho, _⟩ := B2.noT _ z
        rw [nD2] at ho
        cases ho
      have B4 := B3.runn (dx := dx2) hDE List.filter_sublist nf
      have er : (l.filter fun t => !decide (t.1.own = i)).map (·.1) = m.run.filter fun x => !decide (x.own = i) := by
        rw [← B.rn, List.filter_map]
        rfl
      rw [er] at B4
      refine q2 gi _ ⟨fun a => a ∈ fpL p dW dK dL D (l.filter fun t => !decide (t.1.own = i)), ⟨dW, dK, dL, D, kvs, kept, _, B4, fun a => Iff.rfl⟩, fun a o n h => ?_, fun a h => ?_⟩
      · refine (upd_ne fun (y : a = p) => n ((fx a).mpr (y ▸ fp_p))).trans (xE _ _ (off2 a o (fun y => n ((fx a).mpr (y ▸ fp_L))) (x1 _ _ h)))
      · by_cases e : a = D
        · refine .inr ?_
          rw [e]
          cases eh : H D with
          | none => rfl
          | some o =>
            by_cases z : D = dL
            · rw [z] at nD2
              rw [B2.at'.li] at nD2
              cases nD2
            · have := off2 D o z (x1 _ _ eh)
              rw [nD2] at this
              cases this
        · refine .inl ((fx a).mpr ?_)
          have h2 : a ∈ fpL p dW dK dL dR (l.filter fun t => !decide (t.1.own = i)) := by
            unfold fpL at h ⊢
            simp only [List.mem_cons] at h ⊢
            rcases h with h | h | h | h | h | h
            · exact .inl h
            · exact .inr (.inl h)
            · exact .inr (.inr (.inl h))
            · exact .inr (.inr (.inr (.inl h)))
            · exact absurd h e
            · exact .inr (.inr (.inr (.inr (.inr h))))
          exact (fp_sub List.filter_sublist).subset h2
end
end K18
/-! a op1 b op2 c op3 d -/
namespace Tc
open PySem PySem.Spec PyProof.Rows L2 Evl
def tChain4 (r r' r2 : R2) (ta tb tc td : TE) : TE := fun σ H Q => ta σ H fun x H1 => tb σ H1 fun y H2 => r x y H2 fun z H3 => ∃ k, z = .bl k ∧
  (if k = true then (tc σ H3 fun u H4 => r' y u H4 fun z' H5 => ∃ k', z' = .bl k' ∧ (if k' = true then (td σ H5 fun v H6 => r2 u v H6 Q) else Q (.bl false) H5)) else Q (.bl false) H3)
theorem pe_chain4 {X : Cx} {a b c d : Expr} {ta tb tc td : TE} {pos : Pos} {op op' op2 : CmpOp} {r r' r2 : R2} (ho : OpR X (compareOp op) r) (ho' : OpR X (compareOp op') r') (ho2 : OpR X (compareOp op2) r2) (ha : PE X a ta) (hb : PE X b tb) (hc : PE X c tc) (hd : PE X d td)
    (hm : lastMarks [op, op', op2] [b, c, d] = false := by with_unfolding_all rfl) : PE X (.Compare a [op, op', op2] [b, c, d] pos) (tChain4 r r' r2 ta tb tc td) := by
  refine ⟨fun pins s σ H Q I want => Compare_chain (thn (ha.run pins s σ H _ I want) fun v s1 ⟨x, H1, I1, r1, q1⟩ => chain_link (thn (hb.run pins s1 σ H1 _ I1 q1) fun u s2 ⟨y, H2, I2, ry, q2⟩ =>
    thn (ho pins s2 σ H2 x y v u _ I2 r1 ry q2) fun e s3 ⟨z, H3, I3, r3, k, ez, q3⟩ => ?_)) hm⟩
  subst ez
  cases r3
  refine wpAny_truthy_bool ?_
  cases k with
  | false => exact ite_ff ⟨.bl false, H3, I3, rfl, q3⟩
  | true =>
    refine ite_tt (chain_link (thn (hc.run pins s3 σ H3 _ I3 q3) fun u2 s4 ⟨y2, H4, I4, r4, q4⟩ => thn (ho' pins s4 σ H4 y y2 u u2 _ I4 ry r4 q4) fun e2 s5 ⟨z2, H5, I5, r5, k2, ez2, q5⟩ => ?_))
    subst ez2
    cases r5
    refine wpAny_truthy_bool ?_
    cases k2 with
    | false => exact ite_ff ⟨.bl false, H5, I5, rfl, q5⟩
    | true => exact ite_tt (chain_last (thn (hd.run pins s5 σ H5 _ I5 q5) fun w2 s6 ⟨y3, H6, I6, r6, q6⟩ => ho2 pins s6 σ H6 y2 y3 u2 w2 Q I6 r4 r6 q6))
end Tc
namespace K18
open PySem L2 PyProof.Rows Tc Evl
abbrev rInit : Stmt := inClass sReading 0
abbrev rLook : Stmt := inClass sReading 2
abbrev sStre : Stmt := topS 47
theorem scStre : FnScope ["first", "last"] ["first", "last"] (defScope sStre) := ⟨rfl, rfl, rfl, by decide +kernel, rfl, by decide +kernel, by decide +kernel⟩
theorem srInit : FnScope ["self", "owner", "first", "last"] ["self", "owner", "first", "last"] (defScope rInit) := ⟨rfl, rfl, rfl, by decide +kernel, rfl, by decide +kernel, by decide +kernel⟩
theorem srLook : FnScope ["self", "worths", "first", "last", "row"] ["self", "worths"] (defScope rLook) := ⟨rfl, rfl, rfl, by decide +kernel, rfl, by decide +kernel, by decide +kernel⟩
/-- the first of n keys from a on that has a worth -/
def least (f : Int → Option Int) : Nat → Int → Option (Int × Int)
  | 0, _ => none
  | n + 1, a => match f a with
    | some z => some (a, z)
    | none => least f n (a + 1)
def leastF (f : Int → Option Int) (a b : Int) : Option (Int × Int) := least f (b - a).toNat a
def spLeast : Sp := fun vs H Q _ => ∃ (D : Addr) (kvs : List (Key × V)) (f : Int → Option Int) (a b : Int), vs = [.ref D, .int a, .int b] ∧ H D = some (.dK kvs) ∧ (∀ k, valV kvs (.inl k) = (f k).map V.int) ∧ 0 ≤ a ∧ a ≤ 100000 ∧ 0 ≤ b ∧ b ≤ 100000 ∧
  (leastF f a b = none → ∀ H', Ex H H' → Q .non H') ∧ ∀ k z, leastF f a b = some (k, z) → ∀ p H', H p = none → Ex H H' → H' p = some (.tup [.int k, .int z]) → Q (.ref p) H'
section
variable {P : Program} {w : World} {K : PySem.W.Frag} {mg : Str → Option Value} {base : Heap}
abbrev sLe : Stmt := topS 48
theorem scLe : FnScope ["rows", "first", "last", "key"] ["rows", "first", "last"] (defScope sLe) := ⟨rfl, rfl, rfl, by decide +kernel, rfl, by decide +kernel, by decide +kernel⟩
theorem ok_least {f : Addr} {fd : FuncData} {k : Nat} (F : Fun K "least_row" "least_row" sLe f fd) (hrg : mg "range" = none) : FnOk P w K mg base CX0 (k + 1) f fd ["rows", "first", "last"] spLeast := by
  refine F.ok scLe (fun vs H Q E h => ?_) (fun cdv A outer s H vs Q E hr h => ?_)
  · obtain ⟨D, kvs, f, a, b, rfl, _⟩ := h
    rfl
  · obtain ⟨D, kvs, f, a, b, rfl, hD, hv, a0, a1, b0, b1, qn, qs⟩ := h
    refine ⟨_, (pss_cons (ps_for PassesOwn.never rfl (pi_range2 rfl hrg (pa_cons (pv 1) (pa_cons (pv 2) pa_nil))) (pg_name (i := 3) scLe.nd rfl (.inl rfl)) (pss_one (ps_if (pt_cmp (pc_din (hu_of hr) (pv 3) (pv 0))) (pss_one (ps_ret (pe_tup (pa_cons (pv 3) (pa_cons (pe_dget (hu_of hr) (pv 0) (pv 3) (fun _ _ => rfl)) pa_nil))))) pss_nil)))
      (pss_one (ps_ret pe_non))), ?_⟩
    refine s_seq (s_forR2 (lo := a) (n := b) (ea_cons (ev_var rfl) (ea_cons (ev_var rfl) ea_nil)) ⟨a0, a1, by omega, b1⟩ (fun i σ' H' => ∃ y3, σ' = [some (.ref D), some (.int a), some (.int b), y3] ∧ Ex H H' ∧ leastF f a b = least f ((b - a).toNat - i) (a + (i : Int))) (fun H1 x1 => ⟨none, rfl, x1, by simp [leastF]⟩) (fun i σ' H' hi p => ?_) (fun σ' H' p => ?_))
    · obtain ⟨y3, rfl, x1, e⟩ := p
      obtain ⟨m, hm⟩ : ∃ m, (b - a).toNat - i = m + 1 := ⟨(b - a).toNat - i - 1, by omega⟩
      rw [hm] at e
      unfold least at e
      have hD1 := x1 D _ hD
      refine ⟨.int (a + (i : Int)), rfl, .ref D, rfl, D, _, rfl, DGet.k (k := .inl (a + (i : Int))) hD1, _, rfl, ?_⟩
      rw [hv]
      cases hf : f (a + (i : Int)) with
      | none =>
        rw [hf] at e
        refine ⟨_, rfl, x1, ?_⟩
        rw [e, show (b - a).toNat - (i + 1) = m by omega, show a + ((i + 1 : Nat) : Int) = a + (i : Int) + 1 by omega]
      | some z =>
        rw [hf] at e
        refine ⟨.int (a + (i : Int)), rfl, .ref D, rfl, .int (a + (i : Int)), rfl, D, .int z, rfl, ?_, sz_of (by simp), fun p hp => qs _ z e p _ (fresh_back x1 hp) (x1.trans (Ex.new hp)) upd_same⟩
        have := DGet.k (k := .inl (a + (i : Int))) hD1
        rw [hv, hf] at this
        exact this
    · obtain ⟨y3, rfl, x1, e⟩ := p
      rw [Nat.sub_self] at e
      exact qn e H' x1
end
theorem least_is (f : Int → Option Int) : ∀ (n : Nat) (a : Int), least f n a = firstN f n a
  | 0, _ => rfl
  | n + 1, a => by
    unfold least firstN
    cases f a with
    | some z => rfl
    | none => exact least_is f n (a + 1)
def spStr1 : Sp := fun vs H Q _ => ∃ a b : Int, vs = [.int a, .int b] ∧ ∀ H', Ex H H' → Q (.bl (decide (0 ≤ a) && (decide (a < b) && decide (b ≤ 1000)))) H'
def spRIn (K : PySem.W.Frag) (R : Addr) : Sp := fun vs H Q _ => ∃ (r dx : Addr) (own a b : Int), vs = [.ref r, .int own, .int a, .int b] ∧ H r = some (.ins R dx []) ∧ ∀ fl H', H fl = none → fl ≠ r → (∀ x o, x ≠ r → H x = some o → H' x = some o) → (∀ x, H' x = none → H x = none) → (∀ n, RdAt K R H' r fl ⟨n, own, a, b, [], false⟩) → Q .non H'
def spLk1 (K : PySem.W.Frag) (R : Addr) : Sp := fun vs H Q _ => ∃ (r fl D : Addr) (x : Rdg) (kvs : List (Key × V)) (f : Int → Option Int), vs = [.ref r, .ref D] ∧ RdAt K R H r fl x ∧ r ≠ fl ∧ RgOk x ∧ x.found.length ≤ 10000 ∧ H D = some (.dK kvs) ∧ DI allKs kvs f ∧ ∀ H', (∀ a o, a ≠ r → a ≠ fl → H a = some o → H' a = some o) → RdAt K R H' r fl (look1 f x) → Q .non H'
section
variable {P : Program} {w : World} {K : PySem.W.Frag} {mg : Str → Option Value} {base : Heap}
theorem ok_str1 {f : Addr} {fd : FuncData} {k : Nat} (F : Fun K "is_stretch" "is_stretch" sStre f fd) (N : Names mg) : FnOk P w K mg base CX0 (k + 1) f fd ["first", "last"] spStr1 := by
  refine F.ok scStre (fun vs H Q E h => ?_) (fun cdv A outer s H vs Q E hr h => ?_)
  · obtain ⟨a, b, rfl, _⟩ := h
    rfl
  · obtain ⟨a, b, rfl, q⟩ := h
    obtain ⟨tk, hK⟩ := N.KEYS
    refine ⟨_, pss_one (ps_ret (pe_chain4 op_le op_lt op_le pe_int (pv 0) (pv 1) (pe_glob (v := .int 1000) (by rfl) hK ⟨_, rfl⟩))), ?_⟩
    refine ⟨.int a, rfl, 0, a, rfl, rfl, _, rfl, ?_⟩
    have q' := q H (Ex.refl H)
    by_cases h1 : 0 ≤ a
    · rw [decide_eq_true h1] at q' ⊢
      rw [if_pos rfl]
      refine ⟨.int b, rfl, a, b, rfl, rfl, _, rfl, ?_⟩
      by_cases h2 : a < b
      · rw [decide_eq_true h2] at q' ⊢
        rw [if_pos rfl]
        exact ⟨b, 1000, rfl, rfl, q'⟩
      · rw [decide_eq_false h2] at q' ⊢
        rw [if_neg Bool.false_ne_true]
        exact q'
    · rw [decide_eq_false h1] at q' ⊢
      rw [if_neg Bool.false_ne_true]
      exact q'
theorem ok_rin {f R : Addr} {fd : FuncData} {k : Nat} (F : Fun K "__init__" "Reading.__init__" rInit f fd) (RT : RTx K mg R) : FnOk P w K mg base CX0 (k + 1) f fd ["self", "owner", "first", "last"] (spRIn K R) := by
  refine F.ok srInit (fun vs H Q E h => ?_) (fun cdv A outer s H vs Q E hr h => ?_)
  · obtain ⟨r, dx, own, a, b, rfl, _⟩ := h
    rfl
  · obtain ⟨r, dx, own, a, b, rfl, hr0, q⟩ := h
    refine ⟨_, (pss_cons (ps_fld (pv 0) (pv 1) rfl)
      (pss_cons (ps_fld (pv 0) (pe_tup (pa_cons (pv 2) (pa_cons (pv 3) pa_nil))) rfl)
      (pss_cons (ps_fld (pv 0) (pe_lst pa_nil) rfl)
      (pss_one (ps_fld (pv 0) pe_bl rfl))))), ?_⟩
    have n0 : ([] : List (Str × V)).length ≤ 0 := Nat.le_refl _
    refine s_seq (ini_c (Ini.start hr0) (ev_var rfl) rfl RT.cl RT.aO (by show 0 < 1000; decide) fun H1 I1 => ?_)
    have n1 := putF_le (f := "owner") (v := .int own) n0
    dsimp only
    refine s_seq (ini_g I1 (fun Q' q' => eu_tup (ea_cons (ev_var rfl) (ea_cons (ev_var rfl) ea_nil)) (by simp) H1 (Ex.refl H1) Q' q') rfl RT.cl RT.aS (by omega) fun st H2 I2 => ?_)
    have n2 := putF_le (f := "stretch") (v := .ref st) n1
    dsimp only
    refine s_seq (ini_g I2 (fun Q' q' => new_l q') rfl RT.cl RT.aF (by omega) fun fl H3 I3 => ?_)
    have n3 := putF_le (f := "found") (v := .ref fl) n2
    dsimp only
    refine ini_c I3 ev_c rfl RT.cl RT.aE (by omega) fun H4 I4 => ?_
    have ob := I4.ob
    rw [rfd_made] at ob
    have nw := fun q m => I4.nws q m
    simp only [List.mem_cons, List.not_mem_nil, or_false] at nw
    have w1 := nw (fl, .lst []) (.inl rfl)
    have w2 := nw (st, .tup [.int a, .int b]) (.inr rfl)
    exact q fl H4 w1.2.1 w1.2.2 I4.bb I4.fr fun n => ⟨⟨dx, st, ob, st_of w2.1⟩, [], w1.1, .nil⟩
end
end K18
namespace K18
open PySem L2 PyProof.Rows Tc Evl
section
variable {P : Program} {w : World} {K : PySem.W.Frag} {mg : Str → Option Value} {base : Heap}
theorem snoc_of {α : Type} {l : List α} (h : l ≠ []) : ∃ a b, l = a ++ [b] := ⟨l.dropLast, l.getLast h, (List.dropLast_concat_getLast h).symm⟩
/-- by what holds between two rows -/
theorem seq_mid {a b : TS} {D : Ends} {σ : L2.St} {H : Hp} (R : L2.St → Hp → Prop) (h1 : (∀ σ' G, R σ' G → b D σ' G) → tSeq a b D σ H) (h2 : ∀ σ' G, R σ' G → b D σ' G) : tSeq a b D σ H := h1 h2
set_option maxHeartbeats 1000000 in
theorem ok_lk1 {f R : Addr} {fd : FuncData} {kLe k : Nat} (F : Fun K "look_once" "Reading.look_once" rLook f fd) (RT : RTx K mg R) (dLe : Own P w K mg base "least_row" ["rows", "first", "last"] kLe spLeast) (hLe : kLe ≤ k) : FnOk P w K mg base (L2N.CX P w) (k + 1) f fd ["self", "worths"] (spLk1 K R) := by
  refine okN F srLook (fun vs H Q E h => ?_) (fun cdv A outer s H vs Q E hr h => ?_)
  · obtain ⟨r, fl, D, x, kvs, f, rfl, _⟩ := h
    rfl
  · obtain ⟨r, fl, D, x, kvs, f, rfl, rd, ne, ok, few, hD, di, q⟩ := h
    refine ⟨_, (pss_cons (ps_asg (pe_fld (pv 0) rfl) (pg_tup rfl (pgs_cons (pg_name (i := 2) srLook.nd rfl (.inl rfl)) (pgs_cons (pg_name (i := 3) srLook.nd rfl (.inl rfl)) pgs_nil))))
      (pss_cons (ps_if (pt_truth (pe_fld (pv 0) rfl) (fun _ => rfl)) (pss_one (ps_set (i := 2) srLook.nd rfl (.inl rfl) (pe_op op_add (pe_ix ix_tup (pe_ix ix_list (pe_fld (pv 0) rfl) (pe_un un_neg pe_int) (fun _ _ => rfl)) pe_int (fun _ _ => rfl)) pe_int))) pss_nil)
      (pss_cons (ps_set (i := 4) srLook.nd rfl (.inl rfl) (pe_own dLe hr hLe (by rfl) (pa_cons (pv 1) (pa_cons (pv 2) (pa_cons (pv 3) pa_nil)))))
      (pss_one (ps_if (pt_cmpR op_isN1 (pv 4) pe_non (nomark _)) (pss_one (ps_fld (pv 0) pe_bl rfl)) (pss_one (ps_expr (pe_bm PySem.F.plainAttrs_list PySem.F.slot_list_append PySem.F.type_list_append mt_append (pe_fld (pv 0) rfl) (pa_cons (pv 4) pa_nil))))))))), ?_⟩
    obtain ⟨⟨dx, st, h1, h2⟩, vs, h3, h4⟩ := rd
    have vl := dps_len h4
    rw [List.length_map] at vl
    refine s_seq ⟨_, rfl, r, R, dx, _, _, rfl, h1, RT.cl, RT.aS, rl_stretch _ _ _ _, st, _, rfl, h2, rfl, _, _, rfl, _, _, rfl, rfl, ?_⟩
    dsimp only
    refine seq_mid (fun σ' G => σ' = [some (.ref r), some (.ref D), some (.int (nextOf x)), some (.int x.hi), none] ∧ Ex H G) (fun go => ?_) fun σ' G hR => ?_
    · refine s_seq (s_if (b := !vs.isEmpty) (fun G x1 Q' q' => ⟨_, rfl, r, R, dx, _, _, rfl, x1 _ _ h1, RT.cl, RT.aF, rl_found _ _ _ _, _, .inl ⟨vs, sq_of (x1 _ _ h3), rfl⟩, q' G (Ex.refl G)⟩) (fun z H1 x1 => ?_) fun z H1 x1 => s_next (go _ _ ⟨?_, x1⟩))
      · have nv : vs ≠ [] := fun e => by
          rw [e] at z
          cases z
        have nf : x.found ≠ [] := fun e => nv (List.eq_nil_of_length_eq_zero (by rw [vl, e]; rfl))
        obtain ⟨rs, rr, er⟩ := snoc_of nf
        obtain ⟨ws, w0, rfl⟩ := snoc_of nv
        have wl : ws.length = rs.length := by
          rw [er, List.length_append, List.length_append] at vl
          simpa using vl
        obtain ⟨d, hd, hxd⟩ := dps_at (i := ws.length) (v := w0) h4 (by rw [List.getElem?_append_right (Nat.le_refl _), Nat.sub_self]; rfl)
        have ed : d = Tc.pairD rr := by
          rw [er, List.map_append, wl, List.getElem?_append_right (by rw [List.length_map]; exact Nat.le_refl _), List.length_map, Nat.sub_self] at hd
          exact (Option.some.inj hd).symm
        subst ed
        obtain ⟨pa, u0, u1, eu, ht, h0, h1'⟩ := dpt2 hxd
        cases h0
        have nx : nextOf x = rr.1 + 1 := by
          unfold nextOf
          rw [er, List.getLast?_append]
          rfl
        refine s_asg (i := 2) (v := .int (nextOf x)) (ev_is (ev_op (ev_ix0 (K := K) (p := pa) (xs := [u1]) (v := .int rr.1) (ev_is (ev_op (ev_fl (x1 _ _ h1) (rl_found _ _ _ _) RT.cl RT.aF rfl) (ev_un ev_c ru_neg) (rv_ixL (sq_of (x1 _ _ h3)) (atI_last _ _))) eu) (Evl.ex_t x1 ht)) ev_c rv_add) (by rw [nx])) fun H2 x2 => go _ _ ⟨rfl, x1.trans x2⟩
      · have ve : vs = [] := List.isEmpty_iff.mp (by cases e : vs.isEmpty with | true => rfl | false => rw [e] at z; cases z)
        have fe : x.found = [] := List.eq_nil_of_length_eq_zero (by rw [← vl, ve]; rfl)
        have nx : nextOf x = x.lo := by
          unfold nextOf
          rw [fe]
          rfl
        rw [nx]
        rfl
    · obtain ⟨rfl, xG⟩ := hR
      have nb := next_in ok
      have hc := ok.c
      have ha := ok.a
      have hb := ok.b
      refine s_seq ⟨.ref D, rfl, .int (nextOf x), rfl, .int x.hi, rfl, D, kvs, f, nextOf x, x.hi, rfl, xG _ _ hD, di.val, nb.1, by omega, by omega, by omega, fun no H1 x1 => g_name ?_, fun kk zz so t H1 nt x1 ht => g_name ?_⟩
      · have x01 := xG.trans x1
        dsimp only
        refine s_if (b := true) (et_test (ev_op (ev_var rfl) ev_c fun G _ Q' q' => ⟨rfl, q' G (Ex.refl G)⟩)) (fun _ H2 x2 => ?_) fun z => by cases z
        have x02 := x01.trans x2
        refine ⟨.ref r, rfl, r, R, dx, _, rfl, x02 _ _ h1, RT.cl, RT.aE, by show 4 < 1000; decide, ?_⟩
        rw [rp_ended]
        refine q _ (fun a o n1 n2 h => by rw [upd_ne n1]; exact x02 _ _ h) ?_
        have e : look1 f x = { x with ended := true } := by
          unfold look1
          rw [show firstIn f (nextOf x) x.hi = none from (least_is f _ _).symm.trans no]
        rw [e]
        have kt : Kt H2 (upd H2 r (.ins R dx (rfd x.own st fl true))) := kt_upd ⟨_, x02 _ _ h1, (fun xs z => by cases z), fun o xs z => by cases z⟩
        exact ⟨⟨dx, st, upd_same, kt.t (Evl.ex_t x02 h2)⟩, vs, by rw [upd_ne ne.symm]; exact x02 _ _ h3, kt.dps (n := 1) (fun d m => by
          obtain ⟨r, _, rfl⟩ := List.mem_map.mp m
          rfl) (dps_same x02 _ _ h4)⟩
      · have x01 := xG.trans x1
        dsimp only
        refine s_if (b := false) (et_is (et_test (ev_op (ev_var rfl) ev_c fun G _ Q' q' => ⟨rfl, q' G (Ex.refl G)⟩)) (by simp)) (fun z => by cases z) fun _ H2 x2 => ?_
        have x02 := x01.trans x2
        refine s_app (l := fl) (x02 _ _ h3) (ev_fl (x02 _ _ h1) (rl_found _ _ _ _) RT.cl RT.aF rfl) (ev_var rfl) (by omega) fun H3 x3 => ?_
        have x03 := x02.trans x3
        refine q _ (fun a o n1 n2 h => by rw [upd_ne n2]; exact x03 _ _ h) ?_
        have e : look1 f x = { x with found := x.found ++ [(kk, zz)] } := by
          unfold look1
          rw [show firstIn f (nextOf x) x.hi = some (kk, zz) from (least_is f _ _).symm.trans so]
        rw [e]
        have kt : Kt H3 (upd H3 fl (.lst (vs ++ [.ref t]))) := kt_upd ⟨_, x03 _ _ h3, (fun xs z => by cases z), fun o xs z => by cases z⟩
        refine ⟨⟨dx, st, by rw [upd_ne ne]; exact x03 _ _ h1, kt.t (Evl.ex_t x03 h2)⟩, vs ++ [.ref t], upd_same, ?_⟩
        rw [List.map_append]
        exact dps_app (kt.dps (n := 1) (fun d m => by
          obtain ⟨r, _, rfl⟩ := List.mem_map.mp m
          rfl) (dps_same x03 _ _ h4)) (.cons (.tup (kt.t (st_of ((x2.trans x3) _ _ ht))) (.cons (.int kk) (.cons (.int zz) .nil))) .nil)
end
def spBegin (K : PySem.W.Frag) (C R CL CS : Addr) : Sp := fun vs H Q E => ∃ (p : Addr) (m : HM) (X : Addr → Prop) (i a b : Int), vs = [.ref p, .int i, .int a, .int b] ∧ HsM K C R H p m X ∧ i.natAbs.log2 < 1920 ∧ m.bg ≤ 10000 ∧ m.log.length ≤ 10000 ∧
  (i ∉ m.liv.map (·.1) → ∀ d H', H d = none → Ex H H' → H' d = some (.xd [("who", .int i)]) → E (.ref CL) (some d) H') ∧
  (i ∈ m.liv.map (·.1) → ¬ (0 ≤ a ∧ a < b ∧ b ≤ 1000) → ∀ H', Ex H H' → E (.ref CS) none H') ∧
  (i ∈ m.liv.map (·.1) → (0 ≤ a ∧ a < b ∧ b ≤ 1000) → ∀ H', HOut K C R H p X { m with bg := m.bg + 1, run := m.run ++ [⟨(m.bg : Int), i, a, b, [], false⟩], log := m.log ++ [.tuple [.str "low", .int i, .int (m.bg : Int)]] } H' → Q (.int (m.bg : Int)) H')
section
variable {P : Program} {w : World} {K : PySem.W.Frag} {mg : Str → Option Value} {base : Heap}
set_option maxHeartbeats 2000000 in
theorem ok_begin {f C R : Addr} {fd : FuncData} {CL CS fR : Addr} {fdR : FuncData} {bm : List Value} {kR kSt kL k : Nat} (F : Fun K "begin" "House.begin" mBegin f fd) (N : Names mg) (T : HTx K mg C) (RT : RTx K mg R) (mkR : Mk K R fR) (FR : FnOk P w K mg base CX0 kR fR fdR ["self", "owner", "first", "last"] (spRIn K R)) (bR : Binds K fdR ["self", "owner", "first", "last"] []) (hR : kR + 1 ≤ k) (F0 : ExcBaseFacts "ValueError" "ValueError.__new__" "ValueError.__init__" bm) (dNs : OwnE0 K mg "NoStretch" CS bm) (dSt : Own P w K mg base "is_stretch" ["first", "last"] kSt spStr1) (hSt : kSt ≤ k) (dL : MethX P w K mg base C "check_life" ["self", "life"] kL (spCkl K C R CL)) (hL : kL ≤ k) : FnOk P w K mg base (L2N.CX P w) (k + 1) f fd ["self", "life", "first", "last"] (spBegin K C R CL CS) := by
  refine okN F smBegin (fun vs H Q E h => ?_) (fun cdv A outer s H vs Q E hr h => ?_)
  · obtain ⟨p, m, X, i, a, b, rfl, _⟩ := h
    rfl
  · obtain ⟨p, m, X, i, a, b, rfl, S, hb, few, lfew, q1, q2, q3⟩ := h
    refine ⟨_, (pss_cons (ps_expr (pe_methX dL (L2N.takes_of rfl rfl rfl rfl) hr hL T.cl (pv 0) (pa_cons (pv 1) pa_nil)))
      (pss_cons (ps_if (pt_not (pt_val (pe_own dSt hr hSt (by rfl) (pa_cons (pv 2) (pa_cons (pv 3) pa_nil))))) (pss_one (ps_raise0 F0 dNs rfl (L2N.takes_of rfl rfl rfl rfl) (by rfl))) pss_nil)
      (pss_cons (ps_set (i := 4) smBegin.nd rfl (.inl rfl) (pe_fld (pv 0) rfl))
      (pss_cons (ps_fldaug (pv 0) pe_int in_add)
      (pss_cons (ps_dput (hu_of hr) (pe_fld (pv 0) rfl) (pv 4) (pe_make mkR FR (hr.mono hR) (by rfl) RT.mgC bR .nil pass0 (pa_cons (pv 1) (pa_cons (pv 2) (pa_cons (pv 3) pa_nil)))) rfl)
      (pss_cons (ps_expr (pe_bm PySem.F.plainAttrs_list PySem.F.slot_list_append PySem.F.type_list_append mt_append (pe_fld (pv 0) rfl) (pa_cons (pe_tup (pa_cons pe_str (pa_cons (pv 1) (pa_cons (pv 4) pa_nil)))) pa_nil)))
      (pss_one (ps_ret (pv 4))))))))), ?_⟩
    have S' := S
    obtain ⟨dW, dK, dL, dR, kvs, kept, l, B, fx⟩ := S'
    obtain ⟨dx, hp⟩ := B.at'.ob
    refine s_seq ⟨.ref p, rfl, p, dx, _, rfl, hp, (hfl_no _ _ _ _ _ _ _ (by decide +kernel)), .int i, rfl, p, m, X, i, rfl, S, hb, fun bad d H1 nd x1 h1 => q1 bad d H1 nd x1 h1, fun gi H1 x1 => ?_⟩
    replace q2 := q2 gi
    replace q3 := q3 gi
    dsimp only
    refine s_seq (s_if (b := !(decide (0 ≤ a) && (decide (a < b) && decide (b ≤ 1000)))) (et_not (et_B (fun G _ Q' q' => ⟨.int a, rfl, .int b, rfl, a, b, rfl, fun G2 x2 => q' G2 x2⟩))) (fun z H2 x2 => ?_) fun z H2 x2 => s_next ?_)
    · exact q2 (fun y => by rw [decide_eq_true y.1, decide_eq_true y.2.1, decide_eq_true y.2.2] at z; cases z) H2 (x1.trans x2)
    have gs : 0 ≤ a ∧ a < b ∧ b ≤ 1000 := by
      simp only [Bool.not_eq_false', Bool.and_eq_true, decide_eq_true_eq] at z
      exact z
    replace q3 := q3 gs
    have x12 := x1.trans x2
    have B2 := B.keep (fun a o _ h => x12 a o h) (Kt.ex x12)
    dsimp only
    refine q_asg (ev_fl (x12 _ _ hp) (hl_begun _ _ _ _ _ _ _ ) T.cl T.aB rfl) fun H3 x3 => ?_
    have x13 := x12.trans x3
    have B3 := B.keep (fun a o _ h => x13 a o h) (Kt.ex x13)
    refine s_seq ⟨_, rfl, p, C, dx, _, _, rfl, x13 _ _ hp, T.cl, T.aB, hl_begun _ _ _ _ _ _ _ , (m.bg : Int), 1, rfl, rfl, dx, _, x13 _ _ hp, by show 7 < 1000; decide, ?_⟩
    rw [hp_begun, show (m.bg : Int) + 1 = ((m.bg + 1 : Nat) : Int) from rfl]
    have B4 := B3.counts (dx := dx) (lg := m.lg) (bg := m.bg + 1) (Nat.le_refl _) (by omega)
    have hp4 : (upd H3 p (.ins C dx (hfl dW dK m.fk m.lg ((m.bg + 1 : Nat) : Int) dL dR))) p = some (.ins C dx (hfl dW dK m.fk m.lg ((m.bg + 1 : Nat) : Int) dL dR)) := upd_same
    have off4 : ∀ a o, a ≠ p → H3 a = some o → (upd H3 p (.ins C dx (hfl dW dK m.fk m.lg ((m.bg + 1 : Nat) : Int) dL dR))) a = some o := fun a o n h => by rw [upd_ne n]; exact h
    generalize upd H3 p (.ins C dx (hfl dW dK m.fk m.lg ((m.bg + 1 : Nat) : Int) dL dR)) = H4 at B4 hp4 off4
    dsimp only
    refine s_seq ⟨.int i, rfl, .int a, rfl, .int b, rfl, fun r rdx nr nrdx rne => ?_⟩
    have xb : Ex H4 (upd (upd H4 rdx (.own r)) r (.ins R rdx [])) := (Ex.new nrdx).trans (Ex.new (by rw [upd_ne rne.symm]; exact nr))
    refine ⟨r, rdx, i, a, b, rfl, upd_same, fun fl H5 nfl flr keep fr5 ra => ⟨rfl, ?_⟩⟩
    have x5 : Ex H4 H5 := fun c o h => keep c o (ne_of_none h nr) (xb c o h)
    have B5 := B4.keep (fun a o _ h => x5 a o h) (Kt.ex x5)
    have nf : ∀ c, H4 c = none → c ∉ fpL p dW dK dL dR l := fun c h z => by
      obtain ⟨o, ho, _⟩ := B4.noT _ z
      rw [h] at ho
      cases ho
    have nfl4 : H4 fl = none := fresh_back xb nfl
    have hp5 := x5 _ _ hp4
    have vn : valV (rnV l) (.inl (m.bg : Int)) = none := by
      have hs := rn_some l (m.bg : Int)
      rw [B.nums, decide_eq_false fun z => by
        obtain ⟨u, mu, eu⟩ := List.mem_map.mp z
        have := B.rb u mu
        omega] at hs
      exact Option.isNone_iff_eq_none.mp (by rw [← Option.not_isSome, hs]; rfl)
    refine ⟨_, rfl, p, C, dx, _, _, rfl, hp5, T.cl, T.aR, hl_running _ _ _ _ _ _ _ , .int (m.bg : Int), rfl, dR, _, rfl, DPut.k (k := .inl (m.bg : Int)) B5.at'.ru (sz_lt (by unfold rnV; rw [List.length_map]; have := run_few B; omega)), ?_⟩
    have new : putK (rnV l) (.inl (m.bg : Int)) (.ref r) = rnV (l ++ [(⟨(m.bg : Int), i, a, b, [], false⟩, r, fl)]) := by
      rw [putK_new _ vn]
      unfold rnV
      rw [List.map_append]
      rfl
    rw [new]
    have B6 := B5.rput (t := (⟨(m.bg : Int), i, a, b, [], false⟩, r, fl)) (ra _) (nf r nr) (nf fl nfl4) flr.symm (fun x hx => (B.rb x hx).2) ⟨by show 0 ≤ (m.bg : Int); omega, by show (m.bg : Int) < ((m.bg + 1 : Nat) : Int); omega⟩ ⟨gs.1, gs.2.1, gs.2.2, (fun r m => by cases m), .nil⟩
    have off6 : ∀ a o, a ≠ dR → H5 a = some o → (upd H5 dR (.dK (rnV (l ++ [(⟨(m.bg : Int), i, a, b, [], false⟩, r, fl)])))) a = some o := fun a o n h => by rw [upd_ne n]; exact h
    have off6 : ∀ c o, c ≠ dR → H5 c = some o → (upd H5 dR (.dK (rnV (l ++ [(⟨(m.bg : Int), i, a, b, [], false⟩, r, fl)])))) c = some o := fun c o n h => by rw [upd_ne n]; exact h
    generalize upd H5 dR (.dK (rnV (l ++ [(⟨(m.bg : Int), i, a, b, [], false⟩, r, fl)]))) = H6 at B6 off6
    obtain ⟨dx6, hp6⟩ := B6.at'.ob
    dsimp only
    have kl := B.klen
    refine s_seq (s_appU (l := dK) B6.at'.ke (ev_fl hp6 (hl_kept _ _ _ _ _ _ _ ) T.cl T.aK rfl) (eu_tup (ea_cons ev_c (ea_cons (ev_var rfl) (ea_cons (ev_var rfl) ea_nil))) (by simp)) (by omega) fun e H7 _ x7 he => ?_)
    have B7 := B6.keep (fun a o _ h => x7 a o h) (Kt.ex x7)
    have B8 := B7.append (v := .ref e) (d := .tuple [.str "low", .int i, .int (m.bg : Int)]) (.tup (st_of he) (.cons (.str _) (.cons (.int _) (.cons (.int _) .nil)))) (gq_mark (.inl rfl))
    refine ⟨.int (m.bg : Int), rfl, q3 _ ⟨fun c => c ∈ fpL p dW dK dL dR (l ++ [(⟨(m.bg : Int), i, a, b, [], false⟩, r, fl)]), ⟨dW, dK, dL, dR, kvs, _, _, B8, fun c => Iff.rfl⟩, fun c o n h => ?_, fun c h => ?_⟩⟩
    · have nK : c ≠ dK := fun y => n ((fx c).mpr (y ▸ fp_K))
      have nR : c ≠ dR := fun y => n ((fx c).mpr (y ▸ fp_R))
      have np : c ≠ p := fun y => n ((fx c).mpr (y ▸ fp_p))
      exact (upd_ne nK).trans (x7 _ _ (off6 c o nR (x5 _ _ (off4 c o np (x13 _ _ h)))))
    · have e2 : fpL p dW dK dL dR (l ++ [((⟨(m.bg : Int), i, a, b, [], false⟩ : Rdg), r, fl)]) = fpL p dW dK dL dR l ++ [r, fl] := by
        unfold fpL
        rw [List.flatMap_append]
        simp
      have back : ∀ z, H4 z = none → H z = none := fun z hz => by
        cases eh : H z with
        | none => rfl
        | some o =>
          by_cases zp : z = p
          · rw [zp, hp4] at hz
            cases hz
          · have := off4 z o zp (x13 _ _ eh)
            rw [hz] at this
            cases this
      rw [e2] at h
      rcases List.mem_append.mp h with h | h
      · exact .inl ((fx c).mpr h)
      · simp only [List.mem_cons, List.not_mem_nil, or_false] at h
        rcases h with rfl | rfl
        · exact .inr (back _ nr)
        · exact .inr (back _ nfl4)
end
end K18
namespace K18
open PySem L2 PyProof.Rows Tc Evl
def spLook (K : PySem.W.Frag) (C R CR CE : Addr) : Sp := fun vs H Q E => ∃ (p : Addr) (m : HM) (X : Addr → Prop) (i : Int) (n : Nat), vs = [.ref p, .int i, .int (n : Int)] ∧ HsM K C R H p m X ∧ i.natAbs.log2 < 1920 ∧ n ≤ 1000 ∧
  (i ∉ m.run.map (·.num) → ∀ d H', H d = none → Ex H H' → H' d = some (.xd [("number", .int i)]) → E (.ref CR) (some d) H') ∧
  (∀ x ∈ m.run, x.num = i → x.ended = true → ∀ H', Ex H H' → E (.ref CE) none H') ∧
  (∀ x ∈ m.run, x.num = i → x.ended = false → ∀ t H', HOut K C R H p X { m with run := m.run.map (upR i (lookN m.f n)) } H' → TP K H' t ((lookN m.f n x).found.drop x.found.length) → Q (.ref t) H')
def spFin (K : PySem.W.Frag) (C R CR CE : Addr) : Sp := fun vs H Q E => ∃ (p : Addr) (m : HM) (X : Addr → Prop) (i : Int), vs = [.ref p, .int i] ∧ HsM K C R H p m X ∧ i.natAbs.log2 < 1920 ∧ m.log.length ≤ 10000 ∧
  (i ∉ m.run.map (·.num) → ∀ d H', H d = none → Ex H H' → H' d = some (.xd [("number", .int i)]) → E (.ref CR) (some d) H') ∧
  (∀ x ∈ m.run, x.num = i → x.ended = false → ∀ H', Ex H H' → E (.ref CE) none H') ∧
  (∀ x ∈ m.run, x.num = i → x.ended = true → ∀ t H', HOut K C R H p X { m with run := m.run.filter (fun x => !decide (x.num = i)), log := m.log ++ [.tuple [.str "high", .int x.own, .int i]] } H' → TP K H' t x.found → Q (.ref t) H')
theorem lookN_len (f : Int → Option Int) (x : Rdg) : ∀ n, ∃ rs, (lookN f n x).found = x.found ++ rs
  | 0 => ⟨[], (List.append_nil _).symm⟩
  | n + 1 => by
    obtain ⟨rs, e⟩ := lookN_len f x n
    unfold lookN
    dsimp only
    split
    · exact ⟨rs, e⟩
    · unfold look1
      split
      · rename_i r _
        exact ⟨rs ++ [r], by show (lookN f n x).found ++ [r] = _; rw [e, List.append_assoc]⟩
      · exact ⟨rs, e⟩
section
variable {P : Program} {w : World} {K : PySem.W.Frag} {mg : Str → Option Value} {base : Heap}
set_option maxHeartbeats 2000000 in
theorem ok_look {f C R : Addr} {fd : FuncData} {CR CE : Addr} {bm : List Value} {kRo kLk k : Nat} (F : Fun K "look" "House.look" mLook f fd) (N : Names mg) (T : HTx K mg C) (RT : RTx K mg R) (F0 : ExcBaseFacts "ValueError" "ValueError.__new__" "ValueError.__init__" bm) (dEn : OwnE0 K mg "Ended" CE bm) (dRo : MethX P w K mg base C "running_one" ["self", "number"] kRo (spRone K C R CR)) (hRo : kRo ≤ k) (dLk : MethX P w K mg base R "look_once" ["self", "worths"] kLk (spLk1 K R)) (hLk : kLk ≤ k) : FnOk P w K mg base (L2N.CX P w) (k + 1) f fd ["self", "number", "many"] (spLook K C R CR CE) := by
  refine okN F smLook (fun vs H Q E h => ?_) (fun cdv A outer s H vs Q E hr h => ?_)
  · obtain ⟨p, m, X, i, n, rfl, _⟩ := h
    rfl
  · obtain ⟨p, m, X, i, n, rfl, S, hb, n1, q1, q2, q3⟩ := h
    refine ⟨_, (pss_cons (ps_set (i := 3) smLook.nd rfl (.inl rfl) (pe_methX dRo (L2N.takes_of rfl rfl rfl rfl) hr hRo T.cl (pv 0) (pa_cons (pv 1) pa_nil)))
      (pss_cons (ps_if (pt_val (pe_fld (pv 3) rfl)) (pss_one (ps_raise0 F0 dEn rfl (L2N.takes_of rfl rfl rfl rfl) (by rfl))) pss_nil)
      (pss_cons (ps_set (i := 4) smLook.nd rfl (.inl rfl) (pe_callB call_len_seq (by rfl) N.len PySem.boot_len (pa_cons (pe_fld (pv 3) rfl) pa_nil)))
      (pss_cons (ps_for (passes_of rfl) rfl (pi_range1 rfl N.range (pa_cons (pv 2) pa_nil)) (pg_name (i := 5) smLook.nd rfl (.inl rfl)) (pss_one (ps_if (pt_not (pt_val (pe_fld (pv 3) rfl))) (pss_one (ps_expr (pe_methX dLk (L2N.takes_of rfl rfl rfl rfl) hr hLk RT.cl (pv 3) (pa_cons (pe_fld (pv 0) rfl) pa_nil)))) pss_nil)))
      (pss_one (ps_ret (pe_callTy cr_tupP (by rfl) N.tuple boot_tuple (pa_cons (pe_slice sl_list (pe_fld (pv 3) rfl) (po_some (pv 4)) po_none) pa_nil)))))))), ?_⟩
    obtain ⟨dW, dK, dL, dR, kvs, kept, l, B, fx⟩ := S
    obtain ⟨dx, hp⟩ := B.at'.ob
    refine s_seq ⟨.ref p, rfl, p, dx, _, rfl, hp, (hfl_no _ _ _ _ _ _ _ (by decide +kernel)), .int i, rfl, p, dW, dK, dL, dR, kvs, kept, l, m, i, rfl, B, hb, fun bad d H1 nd x1 h1 => q1 bad d H1 nd x1 h1, fun t mt et H1 x1 => g_name ?_⟩
    have A := B.apart
    have B1 := B.keep (fun a o _ h => x1 a o h) (Kt.ex x1)
    have mx : t.1 ∈ m.run := by
      rw [← B.rn]
      exact List.mem_map.mpr ⟨t, mt, rfl⟩
    obtain ⟨⟨rdx, rst, hr1, hr2⟩, vs, hr3, hr4⟩ := B1.rd t mt
    dsimp only
    refine s_seq (s_if (b := t.1.ended) (et_B (ev_fl hr1 (rl_ended _ _ _ _) RT.cl RT.aE rfl)) (fun z H2 x2 => ?_) fun z H2 x2 => s_next ?_)
    · exact q2 t.1 mx et z H2 (x1.trans x2)
    replace q3 := q3 t.1 mx et z
    have x12 := x1.trans x2
    have vl := dps_len hr4
    rw [List.length_map] at vl
    dsimp only
    refine q_asg (v := .int (t.1.found.length : Int)) (ev_is (ev_len (K := K) (p := t.2.2) (xs := vs) (ev_fl (x2 _ _ hr1) (rl_found _ _ _ _) RT.cl RT.aF rfl) (sq_of (x2 _ _ hr3))) (by rw [vl])) fun H3 x3 => ?_
    have x13 := x12.trans x3
    have B3 := B.keep (fun a o _ h => x13 a o h) (Kt.ex x13)
    have rk := B.rk t.1 mx
    have ne := B.one mt
    have nWr : dW ≠ t.2.1 := (A.r1 t mt).2.1.symm
    have nWf : dW ≠ t.2.2 := (A.r2 t mt).2.1.symm
    have npr : p ≠ t.2.1 := (A.r1 t mt).1.symm
    have npf : p ≠ t.2.2 := (A.r2 t mt).1.symm
    refine s_seq (s_forR1 (n := (n : Int)) (ea_cons (ev_var rfl) ea_nil) ⟨by omega, by omega⟩ (fun j σ' G => ∃ z5, σ' = [some (.ref p), some (.int i), some (.int (n : Int)), some (.ref t.2.1), some (.int (t.1.found.length : Int)), z5] ∧ RdAt K R G t.2.1 t.2.2 (lookN m.f j t.1) ∧ ∀ a o, a ≠ t.2.1 → a ≠ t.2.2 → H3 a = some o → G a = some o) (fun G xG => ⟨none, rfl, (B3.rd t mt).keep (fun o h => xG _ _ h) (fun o h => xG _ _ h) (Kt.ex xG), fun a o _ _ h => xG _ _ h⟩) (fun j σ' G hj h => ?_) (fun σ' G h => ?_))
    · obtain ⟨z5, rfl, rd, keep⟩ := h
      have rd' := rd
      obtain ⟨⟨gdx, gst, hg1, _⟩, _⟩ := rd'
      have step : lookN m.f (j + 1) t.1 = if (lookN m.f j t.1).ended then lookN m.f j t.1 else look1 m.f (lookN m.f j t.1) := rfl
      refine s_if (b := !(lookN m.f j t.1).ended) (et_not (et_B (ev_fl hg1 (rl_ended _ _ _ _) RT.cl RT.aE rfl))) (fun z G1 y1 => ?_) fun z G1 y1 => s_next ⟨_, rfl, ?_, fun a o a1 a2 h => y1 _ _ (keep a o a1 a2 h)⟩
      · have ze : (lookN m.f j t.1).ended = false := by
          cases e : (lookN m.f j t.1).ended with
          | false => rfl
          | true => rw [e] at z; cases z
        have rk' := lookN_ok (f := m.f) j rk
        have hpG := y1 _ _ (keep _ _ npr npf (x13 _ _ hp))
        refine ⟨_, rfl, t.2.1, gdx, _, rfl, y1 _ _ hg1, (rfd_no _ _ _ _ (by decide +kernel)), _, rfl, p, C, dx, _, _, rfl, hpG, T.cl, T.aW, hl_worths _ _ _ _ _ _ _ , t.2.1, t.2.2, dW, lookN m.f j t.1, kvs, m.f, rfl, rd.keep (fun o h => y1 _ _ h) (fun o h => y1 _ _ h) (Kt.ex y1), ne, rk', by have := rk'.len; omega, y1 _ _ (keep _ _ nWr nWf B3.at'.wo), B.di, fun G2 k2 rd2 => ⟨_, rfl, ?_, fun a o a1 a2 h => k2 a o a1 a2 (y1 _ _ (keep a o a1 a2 h))⟩⟩
        rw [step, if_neg (by rw [ze]; exact Bool.false_ne_true)]
        exact rd2
      · have ze : (lookN m.f j t.1).ended = true := by
          cases e : (lookN m.f j t.1).ended with
          | true => rfl
          | false => rw [e] at z; cases z
        rw [step, if_pos ze]
        exact rd.keep (fun o h => y1 _ _ h) (fun o h => y1 _ _ h) (Kt.ex y1)
    · obtain ⟨z5, rfl, rd, keep⟩ := h
      rw [Int.toNat_natCast] at rd
      have rd' := rd
      obtain ⟨⟨gdx, gst, hg1, _⟩, us, hg3, hg4⟩ := rd'
      obtain ⟨rs, ers⟩ := lookN_len m.f t.1 n
      have ul := dps_len hg4
      rw [List.length_map, ers, List.length_append] at ul
      have B4 := B3.rmap (H' := G) mt (lookN m.f n) (fun x => (lookN_num m.f n x).1) (fun x h => lookN_ok n h) rd keep
      dsimp only
      refine ⟨_, rfl, t.2.1, R, gdx, _, _, rfl, hg1, RT.cl, RT.aF, rl_found _ _ _ _, _, rfl, _, rfl, t.2.2, us, rfl, sq_of hg3, fun l1 hl1 => ?_⟩
      rw [cut_from _ _ (by omega)]
      refine ⟨l1, _, rfl, sq_of upd_same, fun tt o ntt od => ?_⟩
      have y2 := Ex.new (o := .lst (us.drop t.1.found.length)) hl1
      generalize upd G l1 (.lst (us.drop t.1.found.length)) = G2 at y2 ntt
      have y3 := Ex.new (o := .frz o (.tup (us.drop t.1.found.length))) ntt
      have y23 := y2.trans y3
      rw [et] at B4
      have fpe : ∀ a, a ∈ fpL p dW dK dL dR (l.map (upT i (lookN m.f n))) ↔ a ∈ fpL p dW dK dL dR l := fun a => by
        unfold fpL
        rw [List.flatMap_map]
        rfl
      refine q3 tt _ (HOut.post (H1 := G) ⟨X, ⟨dW, dK, dL, dR, kvs, kept, _, B4, fun a => (fx a).trans (fpe a).symm⟩, fun a o nx h => keep a o (fun y => nx ((fx a).mpr (y ▸ (fp_r mt).1))) (fun y => nx ((fx a).mpr (y ▸ (fp_r mt).2))) (x13 _ _ h), fun a h => .inl h⟩ y23) ⟨_, ⟨o, upd_same, od⟩, ?_⟩
      rw [List.map_drop]
      exact dps_same y23 _ _ (dps_drop _ hg4)
set_option maxHeartbeats 2000000 in
theorem ok_fin {f C R : Addr} {fd : FuncData} {CR CE : Addr} {bm : List Value} {kRo k : Nat} (F : Fun K "finish" "House.finish" mFinish f fd) (N : Names mg) (T : HTx K mg C) (RT : RTx K mg R) (F0 : ExcBaseFacts "ValueError" "ValueError.__new__" "ValueError.__init__" bm) (dNe : OwnE0 K mg "NotEnded" CE bm) (dRo : MethX P w K mg base C "running_one" ["self", "number"] kRo (spRone K C R CR)) (hRo : kRo ≤ k) : FnOk P w K mg base (L2N.CX P w) (k + 1) f fd ["self", "number"] (spFin K C R CR CE) := by
  refine okN F smFinish (fun vs H Q E h => ?_) (fun cdv A outer s H vs Q E hr h => ?_)
  · obtain ⟨p, m, X, i, rfl, _⟩ := h
    rfl
  · obtain ⟨p, m, X, i, rfl, S, hb, lfew, q1, q2, q3⟩ := h
    refine ⟨_, (pss_cons (ps_set (i := 2) smFinish.nd rfl (.inl rfl) (pe_methX dRo (L2N.takes_of rfl rfl rfl rfl) hr hRo T.cl (pv 0) (pa_cons (pv 1) pa_nil)))
      (pss_cons (ps_if (pt_not (pt_val (pe_fld (pv 2) rfl))) (pss_one (ps_raise0 F0 dNe rfl (L2N.takes_of rfl rfl rfl rfl) (by rfl))) pss_nil)
      (pss_cons (ps_ddel (pe_fld (pv 0) rfl) (pv 1))
      (pss_cons (ps_expr (pe_bm PySem.F.plainAttrs_list PySem.F.slot_list_append PySem.F.type_list_append mt_append (pe_fld (pv 0) rfl) (pa_cons (pe_tup (pa_cons pe_str (pa_cons (pe_fld (pv 2) rfl) (pa_cons (pv 1) pa_nil)))) pa_nil)))
      (pss_one (ps_ret (pe_callTy cr_tupP (by rfl) N.tuple boot_tuple (pa_cons (pe_fld (pv 2) rfl) pa_nil)))))))), ?_⟩
    obtain ⟨dW, dK, dL, dR, kvs, kept, l, B, fx⟩ := S
    obtain ⟨dx, hp⟩ := B.at'.ob
    refine s_seq ⟨.ref p, rfl, p, dx, _, rfl, hp, (hfl_no _ _ _ _ _ _ _ (by decide +kernel)), .int i, rfl, p, dW, dK, dL, dR, kvs, kept, l, m, i, rfl, B, hb, fun bad d H1 nd x1 h1 => q1 bad d H1 nd x1 h1, fun t mt et H1 x1 => g_name ?_⟩
    have A := B.apart
    have B1 := B.keep (fun a o _ h => x1 a o h) (Kt.ex x1)
    have mx : t.1 ∈ m.run := by
      rw [← B.rn]
      exact List.mem_map.mpr ⟨t, mt, rfl⟩
    obtain ⟨⟨rdx, rst, hr1, hr2⟩, vs, hr3, hr4⟩ := B1.rd t mt
    dsimp only
    refine s_seq (s_if (b := !t.1.ended) (et_not (et_B (ev_fl hr1 (rl_ended _ _ _ _) RT.cl RT.aE rfl))) (fun z H2 x2 => ?_) fun z H2 x2 => s_next ?_)
    · exact q2 t.1 mx et (by cases e : t.1.ended with | false => rfl | true => rw [e] at z; cases z) H2 (x1.trans x2)
    replace q3 := q3 t.1 mx et (by cases e : t.1.ended with | true => rfl | false => rw [e] at z; cases z)
    have x12 := x1.trans x2
    have B2 := B.keep (fun a o _ h => x12 a o h) (Kt.ex x12)
    have gi : i ∈ m.run.map (·.num) := List.mem_map.mpr ⟨t.1, mx, et⟩
    dsimp only
    refine s_seq ⟨_, rfl, p, C, dx, _, _, rfl, x12 _ _ hp, T.cl, T.aR, hl_running _ _ _ _ _ _ _ , .int i, rfl, dR, _, .inl i, rfl, B2.at'.ru, rfl, by rw [rn_some, B.nums]; exact decide_eq_true gi, ?_⟩
    rw [drop_run]
    have B3 := B2.rdel (l2 := l.filter fun t => !decide (t.1.num = i)) List.filter_sublist
    have er : (l.filter fun t => !decide (t.1.num = i)).map (·.1) = m.run.filter fun x => !decide (x.num = i) := by
      rw [← B.rn, List.filter_map]
      rfl
    rw [er] at B3
    have off3 : ∀ a o, a ≠ dR → H2 a = some o → (upd H2 dR (.dK (rnV (l.filter fun t => !decide (t.1.num = i))))) a = some o := fun a o n h => by rw [upd_ne n]; exact h
    have kt3 : Kt H2 (upd H2 dR (.dK (rnV (l.filter fun t => !decide (t.1.num = i))))) := kt_upd (B2.noT _ fp_R)
    generalize upd H2 dR (.dK (rnV (l.filter fun t => !decide (t.1.num = i)))) = H3 at B3 off3 kt3
    obtain ⟨dx3, hp3⟩ := B3.at'.ob
    have rR := (A.r1 t mt).2.2.2.2
    have fR := (A.r2 t mt).2.2.2.2
    have rK := (A.r1 t mt).2.2.1
    have fK := (A.r2 t mt).2.2.1
    have hr3' := off3 _ _ rR (x2 _ _ hr1)
    have hf3' := off3 _ _ fR (x2 _ _ hr3)
    dsimp only
    have kl := B.klen
    refine s_seq (s_appU (l := dK) B3.at'.ke (ev_fl hp3 (hl_kept _ _ _ _ _ _ _ ) T.cl T.aK rfl) (eu_tup (ea_cons ev_c (ea_cons (ev_fl hr3' (rl_owner _ _ _ _) RT.cl RT.aO rfl) (ea_cons (ev_var rfl) ea_nil))) (by simp)) (by omega) fun e H4 _ x4 he => ?_)
    have B4 := B3.keep (fun a o _ h => x4 a o h) (Kt.ex x4)
    have B5 := B4.append (v := .ref e) (d := .tuple [.str "high", .int t.1.own, .int i]) (.tup (st_of he) (.cons (.str _) (.cons (.int _) (.cons (.int _) .nil)))) (gq_mark (.inr rfl))
    have off5 : ∀ a o, a ≠ dK → H4 a = some o → (upd H4 dK (.lst (kept ++ [.ref e]))) a = some o := fun a o n h => by rw [upd_ne n]; exact h
    have kt5 : Kt H4 (upd H4 dK (.lst (kept ++ [.ref e]))) := kt_upd (B4.noT _ fp_K)
    generalize upd H4 dK (.lst (kept ++ [.ref e])) = H5 at B5 off5 kt5
    dsimp only
    refine ⟨_, rfl, t.2.1, R, rdx, _, _, rfl, off5 _ _ rK (x4 _ _ hr3'), RT.cl, RT.aF, rl_found _ _ _ _, t.2.2, vs, rfl, sq_of (off5 _ _ fK (x4 _ _ hf3')), fun tt o ntt od => ?_⟩
    have y6 := Ex.new (o := .frz o (.tup vs)) ntt
    have pn : ∀ d ∈ t.1.found.map Tc.pairD, nl 1 d = true := fun d md => by
      obtain ⟨r, _, rfl⟩ := List.mem_map.mp md
      rfl
    refine q3 tt _ (HOut.post (H1 := H5) ⟨fun a => a ∈ fpL p dW dK dL dR (l.filter fun t => !decide (t.1.num = i)), ⟨dW, dK, dL, dR, kvs, _, _, B5, fun a => Iff.rfl⟩, fun a o nx h => off5 a o (fun y => nx ((fx a).mpr (y ▸ fp_K))) (x4 _ _ (off3 a o (fun y => nx ((fx a).mpr (y ▸ fp_R))) (x12 _ _ h))), fun a h => .inl ((fx a).mpr ((fp_sub List.filter_sublist).subset h))⟩ y6) ⟨_, ⟨o, upd_same, od⟩, dps_same y6 _ _ (kt5.dps pn (dps_same x4 _ _ (kt3.dps pn (dps_same x2 _ _ hr4))))⟩
end
end K18
namespace K18
open PySem L2 PyProof.Rows Tc Evl
/-- the changes of a group -/
def grD : PyData → List (Int × Option Int)
  | .tuple cs => cs.map chD
  | _ => []
theorem ch_good {c : PyData} (h : isCh c = true) : goodCh allKs c = true := by
  have str : ∀ {s d}, eqS s d = true → d = .str s := fun {s d} e => by
    cases d with
    | str z => rw [of_decide_eq_true (show decide (z = s) = true from e)]
    | _ => cases e
  have key : ∀ {d}, isKey d = true → ∃ i : Int, d = .int i ∧ 0 ≤ i ∧ i < 1000 := fun {d} e => by
    cases d with
    | int i =>
      have p : (decide (0 ≤ i) && decide (i < 1000)) = true := e
      rw [Bool.and_eq_true, decide_eq_true_eq, decide_eq_true_eq] at p
      exact ⟨i, rfl, p.1, p.2⟩
    | _ => cases e
  unfold isCh at h
  split at h
  · rename_i s k
    rw [Bool.and_eq_true] at h
    obtain ⟨i, rfl, h0, h1⟩ := key h.2
    rw [str h.1]
    exact gq_drop (allKs_mem h0 h1)
  · rename_i s k z
    rw [Bool.and_eq_true, Bool.and_eq_true] at h
    obtain ⟨i, rfl, h0, h1⟩ := key h.2.1
    obtain ⟨j, rfl, h2, h3⟩ := key h.2.2
    rw [str h.1]
    exact gq_put (allKs_mem h0 h1) ⟨h2, h3⟩
  · cases h
theorem gr_good {d : PyData} (h : isGr d = true) : ∃ cs, d = .tuple cs ∧ (∀ c ∈ cs, goodCh allKs c = true) ∧ cs.length ≤ 6 := by
  cases d with
  | tuple cs =>
    have h' : ((decide (1 ≤ (cs.length : Int)) && decide ((cs.length : Int) ≤ 6)) && cs.all isCh) = true := h
    rw [Bool.and_eq_true, Bool.and_eq_true, decide_eq_true_eq, decide_eq_true_eq, List.all_eq_true] at h'
    exact ⟨cs, rfl, fun c m => ch_good (h'.2 c m), by omega⟩
  | _ => cases h
theorem nl_gr {d : PyData} (h : isGr d = true) : nl 2 d = true := by
  obtain ⟨cs, rfl, hc, _⟩ := gr_good h
  exact List.all_eq_true.mpr fun c m => nl_ch (hc c m)
def spChg (K : PySem.W.Frag) (C R CN CM : Addr) : Sp := fun vs H Q E => ∃ (p : Addr) (m : HM) (X : Addr → Prop) (v : V) (d : PyData), vs = [.ref p, v] ∧ HsM K C R H p m X ∧ Dp K H v d ∧ m.log.length ≤ 10000 ∧
  (isGr d = false → ∀ H', Ex H H' → E (.ref CN) none H') ∧
  (isGr d = true → ∀ kvs', DI allKs kvs' (appl m.f (grD d)) → 100 < kvs'.length → ∀ b H', H b = none → Ex H H' → H' b = some (.xd [("many", .int (kvs'.length : Int))]) → E (.ref CM) (some b) H') ∧
  (isGr d = true → ∀ kvs' H', DI allKs kvs' (appl m.f (grD d)) → kvs'.length ≤ 100 → HOut K C R H p X { m with f := appl m.f (grD d), log := m.log ++ [.tuple [.str "group", d]] } H' → Q .non H')
def spRds (K : PySem.W.Frag) (C R : Addr) : Sp := fun vs H Q E => ∃ (p : Addr) (m : HM) (X : Addr → Prop), vs = [.ref p] ∧ HsM K C R H p m X ∧ m.bg ≤ 10000 ∧ ∀ t us H', H t = none → Ex H H' → H' t = some (.lst us) → DpAll K H' us (m.run.map rdD) → Q (.ref t) H'
section
variable {P : Program} {w : World} {K : PySem.W.Frag} {mg : Str → Option Value} {base : Heap}
set_option maxHeartbeats 2000000 in
theorem ok_chg {f C R : Addr} {fd : FuncData} {CN CM : Addr} {bm : List Value} {kG kC kM k : Nat} (F : Fun K "change" "House.change" mChange f fd) (N : Names mg) (T : HTx K mg C) (F0 : ExcBaseFacts "ValueError" "ValueError.__new__" "ValueError.__init__" bm) (dNc : OwnE0 K mg "NoChange" CN bm) (dG : Own P w K mg base "is_group" ["thing"] kG (spTold K isGr)) (hG : kG ≤ k) (dCa : Own P w K mg base "carry" ["rows", "log", "low", "high"] kC (spCarryM K)) (hCa : kC ≤ k) (dM : OwnE P w K mg base "TooMany" CM ["self", "many"] kM (spX1 CM "many")) (hM : kM + 1 ≤ k) : FnOk P w K mg base (L2N.CX P w) (k + 1) f fd ["self", "changes"] (spChg K C R CN CM) := by
  refine okN F smChange (fun vs H Q E h => ?_) (fun cdv A outer s H vs Q E hr h => ?_)
  · obtain ⟨p, m, X, v, d, rfl, _⟩ := h
    rfl
  · obtain ⟨p, m, X, v, d, rfl, S, hd, few, q1, q2, q3⟩ := h
    obtain ⟨tMR, hMR⟩ := N.MOST_ROWS
    refine ⟨_, (pss_cons (ps_if (pt_not (pt_val (pe_own dG hr hG (by rfl) (pa_cons (pv 1) pa_nil)))) (pss_one (ps_raise0 F0 dNc rfl (L2N.takes_of rfl rfl rfl rfl) (by rfl))) pss_nil)
      (pss_cons (ps_set (i := 2) smChange.nd rfl (.inl rfl) (pe_tup (pa_cons pe_str (pa_cons (pv 1) pa_nil))))
      (pss_cons (ps_set (i := 3) smChange.nd rfl (.inl rfl) (pe_callTy call_dictD (by rfl) N.dict boot_dict (pa_cons (pe_fld (pv 0) rfl) pa_nil)))
      (pss_cons (ps_expr (pe_own dCa hr hCa (by rfl) (pa_cons (pv 3) (pa_cons (pe_lst (pa_cons (pv 2) pa_nil)) (pa_cons pe_int (pa_cons pe_int pa_nil))))))
      (pss_cons (ps_if (pt_cmpR op_gt (pe_callB call_lenD (by rfl) N.len PySem.boot_len (pa_cons (pv 3) pa_nil)) (pe_glob (v := .int 100) (by rfl) hMR ⟨_, rfl⟩) (nomark _)) (pss_one (ps_raiseE dM rfl (L2N.takes_of rfl rfl rfl rfl) hr hM (by rfl) (pa_cons (pe_callB call_lenD (by rfl) N.len PySem.boot_len (pa_cons (pv 3) pa_nil)) pa_nil))) pss_nil)
      (pss_cons (ps_fld (pv 0) (pv 3) rfl)
      (pss_one (ps_expr (pe_bm PySem.F.plainAttrs_list PySem.F.slot_list_append PySem.F.type_list_append mt_append (pe_fld (pv 0) rfl) (pa_cons (pv 2) pa_nil)))))))))), ?_⟩
    refine s_seq (s_if (b := !isGr d) (et_not (et_B (ev_told (ev_var rfl) hd))) (fun z H1 x1 => ?_) fun z H1 x1 => s_next ?_)
    · exact q1 (by cases e : isGr d with | true => rw [e] at z; cases z | false => rfl) H1 x1
    have hg : isGr d = true := by cases e : isGr d with | true => rfl | false => rw [e] at z; cases z
    replace q2 := q2 hg
    replace q3 := q3 hg
    obtain ⟨cs, rfl, gc, c6⟩ := gr_good hg
    obtain ⟨dW, dK, dL, dR, kvs, kept, l, B, fx⟩ := S
    dsimp only
    refine q_asgU (eu_tup (ea_cons ev_c (ea_cons (ev_var rfl) ea_nil)) (by simp)) fun e H2 ne x2 he => ?_
    have x12 := x1.trans x2
    have B2 := B.keep (fun a o _ h => x12 a o h) (Kt.ex x12)
    obtain ⟨dx, hp⟩ := B2.at'.ob
    refine s_seq ⟨_, rfl, p, C, dx, _, _, rfl, hp, T.cl, T.aW, hl_worths _ _ _ _ _ _ _ , dW, kvs, rfl, .inl B2.at'.wo, fun dW' nW => ?_⟩
    have x3 : Ex H2 (upd H2 dW' (.dK kvs)) := Ex.new nW
    have hW : (upd H2 dW' (.dK kvs)) dW' = some (.dK kvs) := upd_same
    have freeW : H dW' = none := fresh_back x12 nW
    generalize upd H2 dW' (.dK kvs) = H3 at x3 hW
    refine g_name ?_
    dsimp only
    have x13 := x12.trans x3
    have he3 := x3 _ _ he
    have hd3 := dp_same x13 _ _ hd
    refine s_seq ⟨.ref dW', rfl, .ref e, rfl, sz_of (by simp), fun l1 nl' => ?_⟩
    have x4 : Ex H3 (upd H3 l1 (.lst [.ref e])) := Ex.new nl'
    have hl : (upd H3 l1 (.lst [.ref e])) l1 = some (.lst [.ref e]) := upd_same
    generalize upd H3 l1 (.lst [.ref e]) = H4 at x4 hl
    have hde : Dp K H4 (.ref e) (.tuple [.str "group", .tuple cs]) := .tup (st_of (x4 _ _ he3)) (.cons (.str _) (.cons (dp_same x4 _ _ hd3) .nil))
    have gE : goodEn allKs (.tuple [.str "group", .tuple cs]) = true := gq_group gc
    refine ⟨dW', l1, allKs, kvs, m.f, [.tuple [.str "group", .tuple cs]], 0, 1, rfl, x4 _ _ hW, B.di, by rw [allKs_len]; omega, ⟨⟨_, sq_of hl, .cons hde .nil⟩, fun d m => by rcases List.mem_singleton.mp m with rfl; exact gE⟩, by omega, fun kvs' H5 b5 h5 di5 => ?_⟩
    have di' : DI allKs kvs' (appl m.f (grD (.tuple cs))) := by
      have e1 : lgD ((([PyData.tuple [.str "group", .tuple cs]] : List PyData).drop 0).take (1 - 0)) = grD (.tuple cs) := by
        show [PyData.tuple [.str "group", .tuple cs]].flatMap enD = _
        rw [List.flatMap_cons, List.flatMap_nil, List.append_nil]
        rfl
      rw [e1] at di5
      exact di5
    dsimp only
    have x14 := x13.trans x4
    have x15 : Ex H H5 := fun a o h => b5 a o (ne_of_none h freeW) (x14 a o h)
    have lz : EvT (tTest (tOp (rI0 fun i j => .bl (decide (i > j))) (tCB (fun xs H Q => ∃ a kvs, xs = [V.ref a] ∧ H a = some (.dK kvs) ∧ Q (.int kvs.length) H) (tCons (tVar 3) tNil)) (tC (.int 100)))) [some (.ref p), some v, some (.ref e), some (.ref dW')] H5 (decide ((kvs'.length : Int) > 100)) := et_test (ev_op (ev_cb (ea_cons (ev_var rfl) ea_nil) fun G xG Q' q' => ⟨dW', kvs', rfl, xG _ _ h5, q' G (Ex.refl G)⟩) ev_c rv_I0)
    refine s_seq (s_if lz (fun z H6 x6 => ?_) fun z H6 x6 => s_next ?_)
    · have big : 100 < kvs'.length := by
        have := of_decide_eq_true z
        omega
      have x16 := x15.trans x6
      exact raise_go (i := (kvs'.length : Int)) (ea_cons (ev_cb (ea_cons (ev_var rfl) ea_nil) fun G xG Q' q' => ⟨dW', kvs', rfl, xG _ _ (x6 _ _ h5), q' G (Ex.refl G)⟩) ea_nil) (Tc.log_small (c := 0) (by decide) (by have := di'.len; rw [allKs_len] at this; omega)) fun b H7 nb x7 h7 => q2 kvs' di' big b H7 (fresh_back x16 nb) (x16.trans x7) h7
    · have small : kvs'.length ≤ 100 := by
        have := of_decide_eq_false z
        omega
      have x16 := x15.trans x6
      have B6 := B.keep (fun a o _ h => x16 a o h) (Kt.ex x16)
      obtain ⟨dx6, hp6⟩ := B6.at'.ob
      have h6W := x6 _ _ h5
      have nfW : dW' ∉ fpL p dW dK dL dR l := fun z => by
        obtain ⟨o, ho, _⟩ := B.noT _ z
        rw [freeW] at ho
        cases ho
      dsimp only
      refine s_seq ⟨.ref dW', rfl, .ref p, rfl, p, C, dx6, _, rfl, hp6, T.cl, T.aW, by show 7 < 1000; decide, ?_⟩
      rw [hp_worths]
      have B7 := B6.worths (dx := dx6) h6W di' nfW
      have hp7 : (upd H6 p (.ins C dx6 (hfl dW' dK m.fk m.lg m.bg dL dR))) p = some (.ins C dx6 (hfl dW' dK m.fk m.lg m.bg dL dR)) := upd_same
      have k7 : ∀ a o, a ≠ p → H6 a = some o → (upd H6 p (.ins C dx6 (hfl dW' dK m.fk m.lg m.bg dL dR))) a = some o := fun a o n h => by rw [upd_ne n]; exact h
      have kt7 : Kt H6 (upd H6 p (.ins C dx6 (hfl dW' dK m.fk m.lg m.bg dL dR))) := kt_upd (B6.noT _ fp_p)
      generalize upd H6 p (.ins C dx6 (hfl dW' dK m.fk m.lg m.bg dL dR)) = H7 at B7 hp7 k7 kt7
      dsimp only
      have kl := B.klen
      refine s_app (l := dK) B7.at'.ke (ev_fl hp7 (hl_kept _ _ _ _ _ _ _ ) T.cl T.aK rfl) (ev_var rfl) (by omega) fun H8 x8 => ?_
      have B8 := B7.keep (fun a o _ h => x8 a o h) (Kt.ex x8)
      have kt46 : Kt H4 H6 := by
        refine Kt.but (fun a => a = dW') (fun a z => ?_) fun a o z h => x6 _ _ (b5 a o z h)
        subst z
        exact ⟨_, x4 _ _ hW, (fun xs z => by cases z), fun o xs z => by cases z⟩
      have kt48 := (kt46.trans kt7).trans (Kt.ex x8)
      have nlE : nl 3 (.tuple [.str "group", .tuple cs]) = true := nl_en gE
      have B9 := B8.append (v := .ref e) (kt48.dp 3 _ _ nlE hde) gE
      refine q3 kvs' _ di' small ⟨fun a => a ∈ fpL p dW' dK dL dR l, ⟨dW', dK, dL, dR, kvs', _, l, B9, fun a => Iff.rfl⟩, fun a o n h => ?_, fun a h => ?_⟩
      · have nK : a ≠ dK := fun y => n ((fx a).mpr (y ▸ fp_K))
        have np : a ≠ p := fun y => n ((fx a).mpr (y ▸ fp_p))
        exact (upd_ne nK).trans (x8 _ _ (k7 a o np (x16 _ _ h)))
      · by_cases e : a = dW'
        · exact .inr (e ▸ freeW)
        · refine .inl ((fx a).mpr ?_)
          unfold fpL at h ⊢
          simp only [List.mem_cons] at h ⊢
          rcases h with h | h | h | h | h | h
          · exact .inl h
          · exact absurd h e
          · exact .inr (.inr (.inl h))
          · exact .inr (.inr (.inr (.inl h)))
          · exact .inr (.inr (.inr (.inr (.inl h))))
          · exact .inr (.inr (.inr (.inr (.inr h))))
set_option maxHeartbeats 2000000 in
theorem ok_rds {f C R : Addr} {fd : FuncData}  {k : Nat} (F : Fun K "readings" "House.readings" mReadings f fd) (N : Names mg) (T : HTx K mg C) (RT : RTx K mg R) : FnOk P w K mg base (L2N.CX P w) (k + 1) f fd ["self"] (spRds K C R) := by
  refine okN F smReadings (fun vs H Q E h => ?_) (fun cdv A outer s H vs Q E hr h => ?_)
  · obtain ⟨p, m, X, rfl, _⟩ := h
    rfl
  · obtain ⟨p, m, X, rfl, S, few, q⟩ := h
    refine ⟨_, (pss_cons (ps_set (i := 1) smReadings.nd rfl (.inl rfl) (pe_lst pa_nil))
      (pss_cons (ps_for (passes_of rfl) rfl (pi_list (pe_callB (cr_sortedDA rfl) (by rfl) N.sorted boot_sorted (pa_cons (pe_fld (pv 0) rfl) pa_nil))) (pg_name (i := 2) smReadings.nd rfl (.inl rfl)) (pss_cons (ps_set (i := 3) smReadings.nd rfl (.inl rfl) (pe_dget (hu_of hr) (pe_fld (pv 0) rfl) (pv 2) (fun _ _ => rfl)))
      (pss_one (ps_expr (pe_bm PySem.F.plainAttrs_list PySem.F.slot_list_append PySem.F.type_list_append mt_append (pv 1) (pa_cons (pe_tup (pa_cons (pv 2) (pa_cons (pe_fld (pv 3) rfl) (pa_cons (pe_fld (pv 3) rfl) (pa_cons (pe_callTy cr_tupP (by rfl) N.tuple boot_tuple (pa_cons (pe_fld (pv 3) rfl) pa_nil)) (pa_cons (pe_fld (pv 3) rfl) pa_nil)))))) pa_nil))))))
      (pss_one (ps_ret (pv 1))))), ?_⟩
    obtain ⟨dW, dK, dL, dR, kvs, kept, l, B, fx⟩ := S
    refine q_asgL (el_lst ea_nil (by simp)) fun t H1 nt x1 h1 => ?_
    have B1 := B.keep (fun a o _ h => x1 a o h) (Kt.ex x1)
    obtain ⟨dx, hp⟩ := B1.at'.ob
    have hks : (rnV l).map (·.1) = (l.map (·.1.num)).map Sum.inl := by
      unfold rnV
      rw [List.map_map, List.map_map]
      rfl
    refine s_seq ⟨_, rfl, p, C, dx, _, _, rfl, hp, T.cl, T.aR, hl_running _ _ _ _ _ _ _ , dR, rnV l, l.map (·.1.num), rfl, .inl B1.at'.ru, hks, fun ys s0 pm pw ns => ⟨s0, rfl, ⟨_, sq_of upd_same⟩, ?_⟩⟩
    have ey : ys = l.map (·.1.num) := pm.eq_of_pairwise (fun a b _ _ h1 h2 => by omega) pw ((List.pairwise_map.mpr B.lp).imp fun {a b} z => by omega)
    subst ey
    have x2 := Ex.new (o := .lst ((l.map (·.1.num)).map V.int)) ns
    have h2 : (upd H1 s0 (.lst ((l.map (·.1.num)).map V.int))) s0 = some (.lst ((l.map (·.1.num)).map V.int)) := upd_same
    have st : s0 ≠ t := fun z => by
      rw [z, h1] at ns
      cases ns
    generalize upd H1 s0 (.lst ((l.map (·.1.num)).map V.int)) = H2 at x2 h2
    have B2 := B1.keep (fun a o _ h => x2 a o h) (Kt.ex x2)
    have tf : t ∉ fpL p dW dK dL dR l := fun z => by
      obtain ⟨o, ho, _⟩ := B.noT _ z
      rw [nt] at ho
      cases ho
    refine for_list (K := K) (a := s0) (xs := (l.map (·.1.num)).map V.int) (fun j σ' G => ∃ z2 z3 us, σ' = [some (.ref p), some (.ref t), z2, z3] ∧ (∀ a o, a ≠ t → H2 a = some o → G a = some o) ∧ G t = some (.lst us) ∧ us.length = j ∧ DpAll K (hid t G) us ((l.take j).map fun t => rdD t.1)) ⟨none, none, [], rfl, fun a o _ h => h, x2 _ _ h1, rfl, .nil⟩ (fun j σ' G _ h => ?_) (fun j x σ' G hx h => ?_) (fun σ' G h => ?_)
    · obtain ⟨_, _, _, _, keep, _⟩ := h
      exact sq_of (keep _ _ st h2)
    · obtain ⟨z2, z3, us, rfl, keep, hT, ul, du⟩ := h
      rw [List.map_map, List.getElem?_map] at hx
      obtain ⟨u, hu, rfl⟩ := Option.map_eq_some_iff.mp hx
      have mu := List.mem_of_getElem? hu
      have jl : j < l.length := (List.getElem?_eq_some_iff.mp hu).1
      have ktG : Kt H2 G := Kt.but (fun a => a = t) (fun a z => ⟨_, z ▸ x2 _ _ h1, (fun xs z => by cases z), fun o xs z => by cases z⟩) keep
      have BG := B2.keep (H' := G) (fun a o ha h => keep a o (fun z => tf (z ▸ ha)) h) ktG
      obtain ⟨dxG, hpG⟩ := BG.at'.ob
      obtain ⟨⟨rdx, rst, hr1, hr2⟩, vs, hr3, hr4⟩ := BG.rd u mu
      refine g_name ?_
      dsimp only
      refine s_seq ⟨_, rfl, p, C, dxG, _, _, rfl, hpG, T.cl, T.aR, hl_running _ _ _ _ _ _ _ , .int u.1.num, rfl, dR, .ref u.2.1, rfl, by rw [← rn_val B.lp mu]; exact DGet.k (k := .inl u.1.num) BG.at'.ru, g_name ?_⟩
      dsimp only
      refine ⟨.ref t, rfl, .inl ⟨rfl, us, sq_of hT⟩, .int u.1.num, rfl, _, rfl, u.2.1, R, rdx, _, _, rfl, hr1, RT.cl, RT.aO, rl_owner _ _ _ _, _, rfl, u.2.1, R, rdx, _, _, rfl, hr1, RT.cl, RT.aS, rl_stretch _ _ _ _, _, rfl, u.2.1, R, rdx, _, _, rfl, hr1, RT.cl, RT.aF, rl_found _ _ _ _, u.2.2, vs, rfl, sq_of hr3, fun fa o nfa od => ?_⟩
      have y1 := Ex.new (o := .frz o (.tup vs)) nfa
      have hfa : (upd G fa (.frz o (.tup vs))) fa = some (.frz o (.tup vs)) := upd_same
      have fat : fa ≠ t := fun z => by
        rw [z, hT] at nfa
        cases nfa
      generalize upd G fa (.frz o (.tup vs)) = G1 at y1 hfa
      refine ⟨_, rfl, u.2.1, R, rdx, _, _, rfl, y1 _ _ hr1, RT.cl, RT.aE, rl_ended _ _ _ _, sz_of (by simp), fun tt ntt => ?_⟩
      have y2 := Ex.new (o := .tup [.int u.1.num, .int u.1.own, .ref rst, .ref fa, .bl u.1.ended]) ntt
      have htt : (upd G1 tt (.tup [.int u.1.num, .int u.1.own, .ref rst, .ref fa, .bl u.1.ended])) tt = some (.tup [.int u.1.num, .int u.1.own, .ref rst, .ref fa, .bl u.1.ended]) := upd_same
      have ttt : tt ≠ t := fun z => by
        rw [z, y1 _ _ hT] at ntt
        cases ntt
      generalize upd G1 tt (.tup [.int u.1.num, .int u.1.own, .ref rst, .ref fa, .bl u.1.ended]) = G2 at y2 htt
      have y12 := y1.trans y2
      refine ⟨t, us, .ref tt, rfl, rfl, y12 _ _ hT, sz_lt (by have := run_few B; omega), _, _, us ++ [.ref tt], rfl, fun a o n h => by rw [upd_ne n]; exact y12 _ _ (keep a o n h), upd_same, by simp [ul], ?_⟩
      rw [hid_upd, List.take_succ, hu]
      show DpAll K (hid t G2) (us ++ [.ref tt]) ((l.take j ++ [u]).map fun t => rdD t.1)
      rw [List.map_append]
      have ktH : Kt G (hid t G2) := fun a w k ha => hid_at (y12 _ _ ha) (fun z => by
        rw [z, hT] at ha
        obtain ⟨xs, e | ⟨o', e⟩⟩ := k
        · rw [e] at ha
          cases ha
        · rw [e] at ha
          cases ha)
      refine dps_app (dps_same (ex_hid y12) _ _ du) (.cons (.tup (st_of (hid_at htt ttt)) (.cons (.int _) (.cons (.int _) (.cons (.tup (ktH.t hr2) (.cons (.int _) (.cons (.int _) .nil))) (.cons ?_ (.cons (.bl _) .nil)))))) .nil)
      exact .tup (.inl (.inr ⟨o, hid_at (y2 _ _ hfa) fat⟩)) (ktH.dps (n := 1) (fun d md => by
        obtain ⟨r, _, rfl⟩ := List.mem_map.mp md
        rfl) hr4)
    · obtain ⟨z2, z3, us, rfl, keep, hT, ul, du⟩ := h
      rw [List.length_map, List.length_map, List.take_length] at du
      have er : l.map (fun t => rdD t.1) = m.run.map rdD := by
        rw [← B.rn, List.map_map]
        rfl
      rw [er] at du
      refine ⟨_, rfl, q t us G nt (fun a o h => keep a o (ne_of_none h nt) (x2 _ _ (x1 _ _ h))) hT (dps_same (hid_same t G) _ _ du)⟩
end
end K18
/-! a caught exception asked for its classes; which field it has -/
namespace Tc
open PySem L2 L2H PyProof.Rows Evl
/-- a rule that is wanted on one way alone -/
def tXc (c : Prop) (te : TE) : TE := fun σ H Q => c ∧ te σ H Q
theorem pe_c {X : Cx} {e : Expr} {te : TE} {c : Prop} (h : c → PE X e te) : PE X e (tXc c te) := ⟨fun pins s σ H Q I w => (h w.1).run pins s σ H Q I w.2⟩
/-- names of classes, and whether D is one of them -/
inductive ClsAt (X : Cx) (D : Addr) : List Expr → List Addr → Bool → Prop
  | nil : ClsAt X D [] [] false
  | cons {x : Str} {p : Pos} {b r : Bool} {es : List Expr} {cs : List Addr} (g : Gl X x) (hd : (x == ("__debug__" : Str)) = false) (hm : ∃ c, X.mg x = some (.ref c) ∧ PySem.W.kitOne X.K (.ref D) (.ref c) = some b) (t : ClsAt X D es cs r) : ClsAt X D (.Name x p :: es) (Classical.choose hm :: cs) (b || r)
theorem ClsAt.any {X : Cx} {D : Addr} {es : List Expr} {cs : List Addr} {b : Bool} (h : ClsAt X D es cs b) : PySem.W.kitAny X.K (.ref D) (cs.map Value.ref) = some b := by
  induction h with
  | nil => rfl
  | @cons x p b r es cs g hd hm t ih =>
    have e := (Classical.choose_spec hm).2
    rw [List.map_cons, PySem.W.kitAny, e]
    cases b with
    | true => rfl
    | false => exact ih
/-- the reading of (A, B, ..) -/
theorem ClsAt.pa {X : Cx} {D : Addr} {es : List Expr} {cs : List Addr} {b : Bool} (h : ClsAt X D es cs b) (hst : ∀ x (p : Pos) rest, starEach (.Name x p :: rest) X.env = (false, eval (.Name x p) X.env) :: starEach rest X.env) : ∃ t : TA, PA X es t ∧ ∀ σ H (Q : List V → Hp → Prop), Q (cs.map V.ref) H → t σ H Q := by
  induction h with
  | nil => exact ⟨tNil, pa_nil, fun σ H Q q => q⟩
  | @cons x p b r es cs g hd hm t ih =>
    obtain ⟨tt, ht, hq⟩ := ih
    refine ⟨tCons (tC (.ref (Classical.choose hm))) tt, pa_cons (pe_glob (v := .ref (Classical.choose hm)) g (Classical.choose_spec hm).1 rfl hd) ht (hst _ _ _), fun σ H Q q => hq σ H _ q⟩
/-- isinstance(e, (A, B, ..)) -/
def tIsM (pt : Addr × Obj) (d : Option Addr) (b : Bool) (te : TE) : TE := fun σ H Q => te σ H fun v H1 => v = .ref pt.1 ∧ (∀ a, d = some a → ∃ fs, H1 a = some (.xd fs)) ∧ ∀ H2, Ex H1 H2 → Q (.bl b) H2
theorem pe_isT1 {X : Cx} {D : Addr} {d : Option Addr} {pt : Addr × Obj} {y : Str} {i : Nat} {p p1 p2 pos : Pos} {k2} {es : List Expr} {cs : List Addr} {b : Bool} (C : ExK X.K D) (hp : pt ∈ X.pn) (hx : IsEx D d pt) (gi : Gl X "isinstance") (ni : X.mg "isinstance" = none) (hst : ∀ x (p : Pos) rest, starEach (.Name x p :: rest) X.env = (false, eval (.Name x p) X.env) :: starEach rest X.env) (he : PE X (.Name y p1) (tVar i)) (h : ClsAt X D es cs b)
    (hs : starEach [.Name y p1, .Tuple es k2 p2] X.env = (false, eval (.Name y p1) X.env) :: starEach [.Tuple es k2 p2] X.env := by rfl) (hs2 : starEach [.Tuple es k2 p2] X.env = (false, eval (.Tuple es k2 p2) X.env) :: starEach [] X.env := by rfl) (hn : cs.length ≤ 1000 := by simp) :
    PE X (.Call (.Name "isinstance" p) [.Name y p1, .Tuple es k2 p2] [] pos) (tIsM pt d b (tVar i)) := by
  obtain ⟨t, ht, hq⟩ := h.pa hst
  have r := pe_callB (pos := pos) (p := p) (call_isT C hp hx) gi ni boot_isinstance (pa_cons he (pa_cons (pe_tup ht) pa_nil hs2) hs)
  refine ⟨fun pins s σ H Q I w => r.run pins s σ H Q I ?_⟩
  obtain ⟨v, h1, rfl, h2, q⟩ := w
  refine ⟨_, h1, hq _ _ _ ⟨sz_of (by rw [List.length_map]; omega), fun tp htp => ⟨tp, cs, b, rfl, st_of upd_same, fun a e => ?_, h.any, q _ (Ex.new htp)⟩⟩⟩
  obtain ⟨fs, z⟩ := h2 a e
  exact ⟨fs, Ex.new htp _ _ z⟩
theorem ev_isM {pt : Addr × Obj} {d : Option Addr} {b : Bool} {te : TE} {σ : L2.St} {H : Hp} (h : Ev te σ H (.ref pt.1)) (hd : ∀ a, d = some a → ∃ fs, H a = some (.xd fs)) : Ev (tIsM pt d b te) σ H (.bl b) := fun H1 e Q q => h H1 e _ fun H2 e2 => ⟨rfl, xs_ex (e.trans e2) hd, fun H3 e3 => q H3 (e2.trans e3)⟩
/-- which field is told -/
def fieldOf (fl : List Bool) : Option Str := if ((fl.getD 8 false || (fl.getD 22 false || false))) = true then some "at" else if ((fl.getD 6 false || (fl.getD 3 false || false))) = true then some "who" else if ((fl.getD 9 false || (fl.getD 24 false || (fl.getD 16 false || (fl.getD 19 false || false))))) = true then some "number" else if ((fl.getD 5 false || (fl.getD 20 false || false))) = true then some "key" else if fl.getD 14 false = true then some "name" else if fl.getD 21 false = true then some "many" else none
/-- the field told, or None -/
def spFieldN (K : PySem.W.Frag) (mg : Str → Option Value) : SpP := fun p vs H Q _ => ∃ (D : Addr) (d : Option Addr) (fl : List Bool), vs = [.ref p.1] ∧ Kd K mg D fl ∧ XfC K D ∧ IsEx D d p ∧ (∀ a, d = some a → ∃ fs, H a = some (.xd fs)) ∧
  (∀ n, fieldOf fl = some n → PySem.W.findIn K (.ref D) n = some none ∧ ∃ (b : Addr) (fs : List (Str × V)) (v : V), d = some b ∧ H b = some (.xd fs) ∧ fs.lookup n = some v ∧ ∀ H', Ex H H' → Q v H') ∧ (fieldOf fl = none → ∀ H', Ex H H' → Q .non H')
def tFlN (K : PySem.W.Frag) (mg : Str → Option Value) (a : Addr) (cls : Value) (d : Option Addr) (i : Nat) : TE := fun σ H Q => σ[i]? = some (some (.ref a)) ∧ ∃ (D : Addr) (fl : List Bool), cls = .ref D ∧ Kd K mg D fl ∧ XfC K D ∧ (∀ a, d = some a → ∃ fs, H a = some (.xd fs)) ∧
  (∀ n, fieldOf fl = some n → PySem.W.findIn K (.ref D) n = some none ∧ ∃ (b : Addr) (fs : List (Str × V)) (v : V), d = some b ∧ H b = some (.xd fs) ∧ fs.lookup n = some v ∧ ∀ H', Ex H H' → Q v H') ∧ (fieldOf fl = none → ∀ H', Ex H H' → Q .non H')
theorem pe_flN {X : Cx} {a : Addr} {oe : Obj} {cls : Value} {d : Option Addr} {pn : List (Addr × Obj)} {i j k : Nat} {y : Str} {p p1 pos : Pos} (hz : L2N.Zn cls d oe) (hf : ∃ vs, oe.data = .fields vs) (dF : OwnP X.prog X.w X.K X.mg X.base "_law_field" ["e"] k (spFieldN X.K X.mg)) (hr : Room j X.A) (hj : k ≤ j) (hg : Gl X "_law_field") (he : PE (X.suite a ((a, oe) :: pn)) (.Name y p1) (tVar i)) :
    PE (X.suite a ((a, oe) :: pn)) (.Call (.Name "_law_field" p) [.Name y p1] [] pos) (tFlN X.K X.mg a cls d i) := by
  have r := pe_ownP (X := X.suite a ((a, oe) :: pn)) (p := p) (pos := pos) dF (hot_suite hz hf) (roomH_mark hr _) hj hg (pa_cons he pa_nil)
  refine ⟨fun pins s σ H Q I h => r.run pins s σ H Q I ?_⟩
  obtain ⟨h1, D, fl, e, kd, T, hd, q1, q2⟩ := h
  subst e
  exact ⟨_, h1, D, d, fl, rfl, kd, T, ⟨hz.1, hz.2.1, hf⟩, hd, q1, q2⟩
end Tc
namespace K18
open PySem L2 PyProof.Rows Tc Evl
abbrev sCall : Stmt := topS 69
theorem scCall : FnScope ["house", "step", "word"] ["house", "step"] (defScope sCall) := ⟨rfl, rfl, rfl, by decide +kernel, rfl, by decide +kernel, by decide +kernel⟩
/-- the refusals of a house -/
inductive Rf where
  | noChange | tooMany | noLife | noStretch | noReading | ended | notEnded | noPlace | held
def rfX : Rf → Str
  | .noChange => "NoChange" | .tooMany => "TooMany" | .noLife => "NoLife" | .noStretch => "NoStretch" | .noReading => "NoReading" | .ended => "Ended" | .notEnded => "NotEnded" | .noPlace => "NoPlace" | .held => "Held"
def rfI : Rf → Nat × Nat
  | .noChange => (1, 4) | .tooMany => (1, 21) | .noLife => (0, 6) | .noStretch => (1, 12) | .noReading => (0, 9) | .ended => (0, 2) | .notEnded => (0, 17) | .noPlace => (0, 8) | .held => (0, 3)
def rfF (r : Rf) : List Bool := (List.range 26).map fun i => decide (i = (rfI r).1 ∨ i = (rfI r).2 ∨ i = 25)
def rfT : Rf → Str
  | .noChange => "told NoChange+" | .tooMany => "told TooMany+" | .noLife => "asked NoLife+" | .noStretch => "told NoStretch+" | .noReading => "asked NoReading+" | .ended => "asked Ended+" | .notEnded => "asked NotEnded+" | .noPlace => "asked NoPlace+" | .held => "asked Held+"
def rfN : Rf → Option Str
  | .tooMany => some "many" | .noLife => some "who" | .noReading => some "number" | .noPlace => some "at" | .held => some "who" | _ => none
theorem rf_text (r : Rf) : Txt.join "" (kindsL (rfF r)) = rfT r := by cases r <;> decide +kernel
theorem rf_field (r : Rf) : fieldOf (rfF r) = rfN r := by cases r <;> decide +kernel
theorem rf_strOk (r : Rf) : PyData.strOk (rfT r) = true := by cases r <;> decide +kernel
/-- the steps of a house -/
inductive Stp where
  | change (d : PyData) | life | begin (i a b : Int) | look (i : Int) (n : Nat) | finish (i : Int) | stop (i : Int) | hold (i z : Int) | leave (i : Int) | trim (i : Int)
def stD : Stp → List PyData
  | .change d => [.str "change", d] | .life => [.str "life"] | .begin i a b => [.str "begin", .int i, .int a, .int b] | .look i n => [.str "look", .int i, .int (n : Int)] | .finish i => [.str "finish", .int i] | .stop i => [.str "stop", .int i] | .hold i z => [.str "hold", .int i, .int z] | .leave i => [.str "leave", .int i] | .trim i => [.str "trim", .int i]
def stOk : Stp → Prop
  | .change _ => True | .life => True | .begin i a b => i.natAbs.log2 < 1920 | .look i n => i.natAbs.log2 < 1920 ∧ n ≤ 1000 | .finish i => i.natAbs.log2 < 1920 | .stop i => i.natAbs.log2 < 1920 | .hold i z => i.natAbs.log2 < 1920 ∧ z.natAbs.log2 < 1920 | .leave i => i.natAbs.log2 < 1920 | .trim i => i.natAbs.log2 < 1920
/-- what comes of a step -/
inductive Out where
  | ok (m : HM) (r : PyData)
  | no (r : Rf) (i : Option Int)
def countF (f : Int → Option Int) : Nat := (allKs.filter fun k => (f k).isSome).length
theorem count_di {kvs : List (Key × V)} {f : Int → Option Int} (h : DI allKs kvs f) : kvs.length = countF f := by
  obtain ⟨js, e, nd, mem, _⟩ := h.keys
  have l1 : kvs.length = js.length := by have := congrArg List.length e; rw [List.length_map, List.length_map] at this; exact this
  have nk : allKs.Nodup := by
    unfold allKs
    rw [List.Nodup, List.pairwise_map]
    exact List.pairwise_lt_range.imp fun {a b} z e => by omega
  have p : js.Perm (allKs.filter fun k => (f k).isSome) := (List.perm_ext_iff_of_nodup nd (nk.sublist List.filter_sublist)).mpr fun k => by
    rw [List.mem_filter, mem k]
    refine ⟨fun z => ⟨?_, z⟩, fun z => z.2⟩
    have h2 : (Sum.inl k : Key) ∈ kvs.map (·.1) := by
      rw [e]
      exact List.mem_map.mpr ⟨k, (mem k).mpr z, rfl⟩
    obtain ⟨q, mq, eq⟩ := List.mem_map.mp h2
    obtain ⟨k', hk', e'⟩ := h.inn q mq
    cases (eq.symm.trans e' : (Sum.inl k : Key) = Sum.inl k')
    exact hk'
  rw [l1, p.length_eq]
  rfl
def inPl (m : HM) (z : Int) : Bool := decide ((m.fk : Int) ≤ z ∧ z ≤ (m.fk : Int) + (m.log.length : Int))
def isLf (m : HM) (i : Int) : Bool := decide (i ∈ m.liv.map (·.1))
theorem isLf_t {m : HM} {i : Int} (h : i ∈ m.liv.map (·.1)) : isLf m i = true := decide_eq_true h
theorem inPl_t {m : HM} {z : Int} (h : (m.fk : Int) ≤ z ∧ z ≤ (m.fk : Int) + (m.log.length : Int)) : inPl m z = true := decide_eq_true h
def rdOf (m : HM) (i : Int) : Option Rdg := m.run.find? fun x => decide (x.num = i)
def hdo (m : HM) : Stp → Out
  | .change d => if isGr d then (if countF (appl m.f (grD d)) ≤ 100 then .ok { m with f := appl m.f (grD d), log := m.log ++ [.tuple [.str "group", d]] } .none else .no .tooMany (some (countF (appl m.f (grD d)) : Int))) else .no .noChange none
  | .life => .ok { m with lg := m.lg + 1, liv := m.liv ++ [((m.lg : Int) + 1, none)] } (.int ((m.lg : Int) + 1))
  | .begin i a b => if isLf m i then (if decide (0 ≤ a ∧ a < b ∧ b ≤ 1000) then .ok { m with bg := m.bg + 1, run := m.run ++ [⟨(m.bg : Int), i, a, b, [], false⟩], log := m.log ++ [.tuple [.str "low", .int i, .int (m.bg : Int)]] } (.int (m.bg : Int)) else .no .noStretch none) else .no .noLife (some i)
  | .look i n => match rdOf m i with
    | none => .no .noReading (some i)
    | some x => if x.ended then .no .ended none else .ok { m with run := m.run.map (upR i (lookN m.f n)) } (rowsD ((lookN m.f n x).found.drop x.found.length))
  | .finish i => match rdOf m i with
    | none => .no .noReading (some i)
    | some x => if x.ended then .ok { m with run := m.run.filter (fun x => !decide (x.num = i)), log := m.log ++ [.tuple [.str "high", .int x.own, .int i]] } (rowsD x.found) else .no .notEnded none
  | .stop i => match rdOf m i with
    | none => .no .noReading (some i)
    | some _ => .ok { m with run := m.run.filter fun x => !decide (x.num = i) } .none
  | .hold i z => if isLf m i then (if inPl m z then .ok { m with liv := setL m.liv i z } .none else .no .noPlace (some z)) else .no .noLife (some i)
  | .leave i => if isLf m i then .ok { m with liv := m.liv.filter (fun r => !decide (r.1 = i)), run := m.run.filter (fun x => !decide (x.own = i)) } .none else .no .noLife (some i)
  | .trim i => if inPl m i then (match (hoP m.liv).find? (fun r => decide (r.2 < i)) with
      | some r => .no .held (some r.1)
      | none => .ok { m with log := m.log.drop (i - m.fk).toNat, fk := i.toNat } .none) else .no .noPlace (some i)
/-- sizes that a house keeps below -/
structure HFew (m : HM) : Prop where
  lg : m.lg ≤ 10000
  bg : m.bg ≤ 10000
  log : m.log.length ≤ 10000
  fk : m.fk ≤ 100000
/-- what a call of the house tells, or lets out -/
def spCallH (K : PySem.W.Frag) (C R : Addr) (cx : Rf → Addr) : Sp := fun vs H Q E => ∃ (p st : Addr) (m : HM) (X : Addr → Prop) (s : Stp) (us : List V), vs = [.ref p, .ref st] ∧ HsM K C R H p m X ∧ HFew m ∧ SqT K H st us ∧ DpAll K H us (stD s) ∧ stOk s ∧
  (∀ m' r, hdo m s = .ok m' r → ∀ v H', HOut K C R H p X m' H' → Dp K H' v r → Q v H') ∧
  (∀ r, hdo m s = .no r none → ∀ H', Ex H H' → E (.ref (cx r)) none H') ∧
  (∀ r i, hdo m s = .no r (some i) → ∀ d H', H d = none → Ex H H' → H' d = some (.xd [((rfN r).getD "", .int i)]) → E (.ref (cx r)) (some d) H')
theorem rd_some {m : HM} {i : Int} {x : Rdg} (pw : m.run.Pairwise fun x y => x.num < y.num) (h : x ∈ m.run) (e : x.num = i) : rdOf m i = some x := by
  unfold rdOf
  cases f : m.run.find? (fun x => decide (x.num = i)) with
  | none =>
    have := List.find?_eq_none.mp f x h
    rw [decide_eq_true e] at this
    exact absurd rfl this
  | some y =>
    have my := List.mem_of_find?_eq_some f
    have ey : y.num = i := by simpa using List.find?_some f
    by_cases z : y = x
    · rw [z]
    · have := pw_two (P := fun a b : Rdg => a.num ≠ b.num) (fun a b h e => h e.symm) (pw.imp fun {a b} z => by omega) y my x h z
      exact absurd (ey.trans e.symm) this
theorem rd_none {m : HM} {i : Int} (h : i ∉ m.run.map (·.num)) : rdOf m i = none := by
  unfold rdOf
  refine List.find?_eq_none.mpr fun x hx z => h (List.mem_map.mpr ⟨x, hx, of_decide_eq_true z⟩)
theorem dps_cons {K : PySem.W.Frag} {H : Hp} {us : List V} {d : PyData} {ds : List PyData} (h : DpAll K H us (d :: ds)) : ∃ u vs, us = u :: vs ∧ Dp K H u d ∧ DpAll K H vs ds := by
  cases h with
  | cons a b => exact ⟨_, _, rfl, a, b⟩
section
variable {P : Program} {w : World} {K : PySem.W.Frag} {mg : Str → Option Value} {base : Heap}
set_option maxHeartbeats 4000000 in
theorem ok_callH {f C R : Addr} {fd : FuncData} {cx : Rf → Addr} {kCh kLi kBe kFi kSt kHo kLe kTr kLo k : Nat} (F : Fun K "_law_house_call" "_law_house_call" sCall f fd) (T : HTx K mg C) (dCh : MethX P w K mg base C "change" ["self", "changes"] kCh (spChg K C R (cx .noChange) (cx .tooMany))) (hCh : kCh ≤ k) (dLi : MethX P w K mg base C "life" ["self"] kLi (spLif K C R)) (hLi : kLi ≤ k) (dBe : MethX P w K mg base C "begin" ["self", "life", "first", "last"] kBe (spBegin K C R (cx .noLife) (cx .noStretch))) (hBe : kBe ≤ k) (dFi : MethX P w K mg base C "finish" ["self", "number"] kFi (spFin K C R (cx .noReading) (cx .notEnded))) (hFi : kFi ≤ k) (dSt : MethX P w K mg base C "stop" ["self", "number"] kSt (spStop K C R (cx .noReading))) (hSt : kSt ≤ k) (dHo : MethX P w K mg base C "hold" ["self", "life", "place"] kHo (spHold K C R (cx .noLife) (cx .noPlace))) (hHo : kHo ≤ k) (dLe : MethX P w K mg base C "leave" ["self", "life"] kLe (spLeave K C R (cx .noLife))) (hLe : kLe ≤ k) (dTr : MethX P w K mg base C "trim" ["self", "place"] kTr (spTrim K C R (cx .noPlace) (cx .held))) (hTr : kTr ≤ k) (dLo : MethXN P w K mg base C "look" ["self", "number", "many"] 1 ["many"] kLo (spLook K C R (cx .noReading) (cx .ended))) (hLo : kLo ≤ k) : FnOk P w K mg base (L2N.CX P w) (k + 1) f fd ["house", "step"] (spCallH K C R cx) := by
  refine okN F scCall (fun vs H Q E h => ?_) (fun cdv A outer s H vs Q E hr h => ?_)
  · obtain ⟨p, st, m, X, sp, us, rfl, _⟩ := h
    rfl
  obtain ⟨p, st, m, X, sp, us, rfl, S, few, hst, du, ok, qo, qn, qi⟩ := h
  refine ⟨_, (pss_cons (ps_set (i := 2) scCall.nd rfl (.inl rfl) (pe_ix ix_tup (pv 1) pe_int (fun _ _ => rfl)))
      (pss_cons (ps_if (pt_cmpR op_eq (pv 2) pe_str (nomark _)) (pss_one (ps_ret (pe_methX dCh (L2N.takes_of rfl rfl rfl rfl) hr hCh T.cl (pv 0) (pa_cons (pe_ix ix_tup (pv 1) pe_int (fun _ _ => rfl)) pa_nil)))) pss_nil)
      (pss_cons (ps_if (pt_cmpR op_eq (pv 2) pe_str (nomark _)) (pss_one (ps_ret (pe_methX0 dLi (L2N.takes_of rfl rfl rfl rfl) hr hLi T.cl (pv 0)))) pss_nil)
      (pss_cons (ps_if (pt_cmpR op_eq (pv 2) pe_str (nomark _)) (pss_one (ps_ret (pe_methX dBe (L2N.takes_of rfl rfl rfl rfl) hr hBe T.cl (pv 0) (pa_cons (pe_ix ix_tup (pv 1) pe_int (fun _ _ => rfl)) (pa_cons (pe_ix ix_tup (pv 1) pe_int (fun _ _ => rfl)) (pa_cons (pe_ix ix_tup (pv 1) pe_int (fun _ _ => rfl)) pa_nil)))))) pss_nil)
      (pss_cons (ps_if (pt_cmpR op_eq (pv 2) pe_str (nomark _)) (pss_one (ps_ret (pe_methXN dLo (L2N.takes_of rfl rfl rfl rfl) hr hLo T.cl (pv 0) (pa_cons (pe_ix ix_tup (pv 1) pe_int (fun _ _ => rfl)) pa_nil) (pk_cons (pe_ix ix_tup (pv 1) pe_int (fun _ _ => rfl)) pk_nil)))) pss_nil)
      (pss_cons (ps_if (pt_cmpR op_eq (pv 2) pe_str (nomark _)) (pss_one (ps_ret (pe_methX dFi (L2N.takes_of rfl rfl rfl rfl) hr hFi T.cl (pv 0) (pa_cons (pe_ix ix_tup (pv 1) pe_int (fun _ _ => rfl)) pa_nil)))) pss_nil)
      (pss_cons (ps_if (pt_cmpR op_eq (pv 2) pe_str (nomark _)) (pss_one (ps_ret (pe_methX dSt (L2N.takes_of rfl rfl rfl rfl) hr hSt T.cl (pv 0) (pa_cons (pe_ix ix_tup (pv 1) pe_int (fun _ _ => rfl)) pa_nil)))) pss_nil)
      (pss_cons (ps_if (pt_cmpR op_eq (pv 2) pe_str (nomark _)) (pss_one (ps_ret (pe_methX dHo (L2N.takes_of rfl rfl rfl rfl) hr hHo T.cl (pv 0) (pa_cons (pe_ix ix_tup (pv 1) pe_int (fun _ _ => rfl)) (pa_cons (pe_ix ix_tup (pv 1) pe_int (fun _ _ => rfl)) pa_nil))))) pss_nil)
      (pss_cons (ps_if (pt_cmpR op_eq (pv 2) pe_str (nomark _)) (pss_one (ps_ret (pe_methX dLe (L2N.takes_of rfl rfl rfl rfl) hr hLe T.cl (pv 0) (pa_cons (pe_ix ix_tup (pv 1) pe_int (fun _ _ => rfl)) pa_nil)))) pss_nil)
      (pss_one (ps_ret (pe_methX dTr (L2N.takes_of rfl rfl rfl rfl) hr hTr T.cl (pv 0) (pa_cons (pe_ix ix_tup (pv 1) pe_int (fun _ _ => rfl)) pa_nil))))))))))))), ?_⟩
  cases sp with
  | change d =>
    obtain ⟨u0, us0, rfl, h0, du0⟩ := dps_cons (show DpAll K H us (_ :: _) from du)
    cases h0
    obtain ⟨u1, us1, rfl, h1, du1⟩ := dps_cons du0
    cases du1
    obtain ⟨dW, dK, dL, dR, kvs, kept, l, B, fx⟩ := S
    have S : HsM K C R H p m X := ⟨dW, dK, dL, dR, kvs, kept, l, B, fx⟩
    obtain ⟨dx, hp⟩ := B.at'.ob
    refine q_asg (ev_ix0 (ev_var rfl) hst) fun H1 x1 => ?_
    refine s_seq (s_if (b := true) (et_is (et_test (ev_op (ev_var rfl) ev_c (rv_eq rfl))) (by decide)) (fun _ GG yy => ?_) fun z => by cases z)
    have xx := x1.trans yy
    refine ⟨_, rfl, p, dx, _, rfl, xx _ _ hp, (hfl_no _ _ _ _ _ _ _ (by decide +kernel)), ?_⟩
    refine (ea_cons (ev_ix1 (ev_var rfl) (Evl.ex_t xx hst)) ea_nil) GG (Ex.refl GG) _ fun G y => ?_
    have x := xx.trans y
    refine ⟨p, m, X, u1, d, rfl, S.ex x, dp_same x _ _ h1, few.log, fun bad H' x' => qn .noChange (by dsimp only [hdo]; rw [if_neg (by rw [bad]; exact Bool.false_ne_true)]) H' (x.trans x'), fun gr kvs' di big b H' nb x' h' => ?_, fun gr kvs' H' di sm o => ?_⟩
    · rw [count_di di] at h' big
      exact qi .tooMany _ (by dsimp only [hdo]; rw [if_pos gr, if_neg (by omega)]) b H' (fresh_back x nb) (x.trans x') h'
    · rw [count_di di] at sm
      exact qo _ _ (by dsimp only [hdo]; rw [if_pos gr, if_pos sm]) .non H' (o.pre x) .non
  | life =>
    obtain ⟨u0, us0, rfl, h0, du0⟩ := dps_cons (show DpAll K H us (_ :: _) from du)
    cases h0
    cases du0
    obtain ⟨dW, dK, dL, dR, kvs, kept, l, B, fx⟩ := S
    have S : HsM K C R H p m X := ⟨dW, dK, dL, dR, kvs, kept, l, B, fx⟩
    obtain ⟨dx, hp⟩ := B.at'.ob
    refine q_asg (ev_ix0 (ev_var rfl) hst) fun H1 x1 => ?_
    refine s_seq (s_if (b := false) (et_is (et_test (ev_op (ev_var rfl) ev_c (rv_eq rfl))) (by decide)) (fun z => by cases z) fun _ G0 y0 => s_next ?_)
    have w0 := x1.trans y0
    try dsimp only
    refine s_seq (s_if (b := true) (et_is (et_test (ev_op (ev_var rfl) ev_c (rv_eq rfl))) (by decide)) (fun _ GG yy => ?_) fun z => by cases z)
    have xx := w0.trans yy
    exact ⟨_, rfl, p, dx, _, rfl, xx _ _ hp, (hfl_no _ _ _ _ _ _ _ (by decide +kernel)), p, m, X, rfl, S.ex xx, few.lg, fun H' o => qo _ _ rfl _ H' (o.pre xx) (.int _)⟩
  | begin i a b =>
    obtain ⟨u0, us0, rfl, h0, du0⟩ := dps_cons (show DpAll K H us (_ :: _) from du)
    cases h0
    obtain ⟨u1, us1, rfl, h1, du1⟩ := dps_cons du0
    cases h1
    obtain ⟨u2, us2, rfl, h2, du2⟩ := dps_cons du1
    cases h2
    obtain ⟨u3, us3, rfl, h3, du3⟩ := dps_cons du2
    cases h3
    cases du3
    obtain ⟨dW, dK, dL, dR, kvs, kept, l, B, fx⟩ := S
    have S : HsM K C R H p m X := ⟨dW, dK, dL, dR, kvs, kept, l, B, fx⟩
    obtain ⟨dx, hp⟩ := B.at'.ob
    refine q_asg (ev_ix0 (ev_var rfl) hst) fun H1 x1 => ?_
    refine s_seq (s_if (b := false) (et_is (et_test (ev_op (ev_var rfl) ev_c (rv_eq rfl))) (by decide)) (fun z => by cases z) fun _ G0 y0 => s_next ?_)
    have w0 := x1.trans y0
    try dsimp only
    refine s_seq (s_if (b := false) (et_is (et_test (ev_op (ev_var rfl) ev_c (rv_eq rfl))) (by decide)) (fun z => by cases z) fun _ G1 y1 => s_next ?_)
    have w1 := w0.trans y1
    try dsimp only
    refine s_seq (s_if (b := true) (et_is (et_test (ev_op (ev_var rfl) ev_c (rv_eq rfl))) (by decide)) (fun _ GG yy => ?_) fun z => by cases z)
    have xx := w1.trans yy
    refine ⟨_, rfl, p, dx, _, rfl, xx _ _ hp, (hfl_no _ _ _ _ _ _ _ (by decide +kernel)), ?_⟩
    refine (ea_cons (ev_ix1 (ev_var rfl) (Evl.ex_t xx hst)) (ea_cons (ev_ix2 (ev_var rfl) (Evl.ex_t xx hst)) (ea_cons (ev_ixT (j := 3) (ev_var rfl) (Evl.ex_t xx hst) rfl) ea_nil))) GG (Ex.refl GG) _ fun G y => ?_
    have x := xx.trans y
    refine ⟨p, m, X, i, a, b, rfl, S.ex x, ok, few.bg, few.log, fun bad d H' nd x' h' => qi .noLife _ (by dsimp only [hdo]; rw [if_neg (by rw [isLf, decide_eq_false bad]; exact Bool.false_ne_true)]) d H' (fresh_back x nd) (x.trans x') h', fun gi bad H' x' => qn .noStretch (by dsimp only [hdo]; rw [if_pos (isLf_t gi), if_neg (by rw [decide_eq_false bad]; exact Bool.false_ne_true)]) H' (x.trans x'), fun gi gs H' o => qo _ _ (by dsimp only [hdo]; rw [if_pos (isLf_t gi), if_pos (decide_eq_true gs)]) _ H' (o.pre x) (.int _)⟩
  | look i n =>
    obtain ⟨u0, us0, rfl, h0, du0⟩ := dps_cons (show DpAll K H us (_ :: _) from du)
    cases h0
    obtain ⟨u1, us1, rfl, h1, du1⟩ := dps_cons du0
    cases h1
    obtain ⟨u2, us2, rfl, h2, du2⟩ := dps_cons du1
    cases h2
    cases du2
    obtain ⟨dW, dK, dL, dR, kvs, kept, l, B, fx⟩ := S
    have S : HsM K C R H p m X := ⟨dW, dK, dL, dR, kvs, kept, l, B, fx⟩
    obtain ⟨dx, hp⟩ := B.at'.ob
    refine q_asg (ev_ix0 (ev_var rfl) hst) fun H1 x1 => ?_
    refine s_seq (s_if (b := false) (et_is (et_test (ev_op (ev_var rfl) ev_c (rv_eq rfl))) (by decide)) (fun z => by cases z) fun _ G0 y0 => s_next ?_)
    have w0 := x1.trans y0
    try dsimp only
    refine s_seq (s_if (b := false) (et_is (et_test (ev_op (ev_var rfl) ev_c (rv_eq rfl))) (by decide)) (fun z => by cases z) fun _ G1 y1 => s_next ?_)
    have w1 := w0.trans y1
    try dsimp only
    refine s_seq (s_if (b := false) (et_is (et_test (ev_op (ev_var rfl) ev_c (rv_eq rfl))) (by decide)) (fun z => by cases z) fun _ G2 y2 => s_next ?_)
    have w2 := w1.trans y2
    try dsimp only
    refine s_seq (s_if (b := true) (et_is (et_test (ev_op (ev_var rfl) ev_c (rv_eq rfl))) (by decide)) (fun _ GG yy => ?_) fun z => by cases z)
    have xx := w2.trans yy
    refine ⟨_, rfl, p, dx, _, rfl, xx _ _ hp, (hfl_no _ _ _ _ _ _ _ (by decide +kernel)), ?_⟩
    refine (ea_cons (ev_ix1 (ev_var rfl) (Evl.ex_t xx hst)) ea_nil) GG (Ex.refl GG) _ fun G0 z0 => ?_
    refine (ea_cons (Ev.mono z0 (ev_ix2 (ev_var rfl) (Evl.ex_t xx hst))) ea_nil) G0 (Ex.refl G0) _ fun G y => ?_
    have x := (xx.trans z0).trans y
    refine ⟨rfl, rfl, p, m, X, i, n, rfl, S.ex x, ok.1, ok.2, fun bad d H' nd x' h' => qi .noReading _ (by dsimp only [hdo]; rw [rd_none bad]) d H' (fresh_back x nd) (x.trans x') h', fun y my ey en H' x' => qn .ended (by dsimp only [hdo]; rw [rd_some B.rp my ey]; exact if_pos en) H' (x.trans x'), fun y my ey en t H' o tp => qo _ _ (by dsimp only [hdo]; rw [rd_some B.rp my ey]; exact if_neg (by rw [en]; exact Bool.false_ne_true)) _ H' (o.pre x) tp.dp⟩
  | finish i =>
    obtain ⟨u0, us0, rfl, h0, du0⟩ := dps_cons (show DpAll K H us (_ :: _) from du)
    cases h0
    obtain ⟨u1, us1, rfl, h1, du1⟩ := dps_cons du0
    cases h1
    cases du1
    obtain ⟨dW, dK, dL, dR, kvs, kept, l, B, fx⟩ := S
    have S : HsM K C R H p m X := ⟨dW, dK, dL, dR, kvs, kept, l, B, fx⟩
    obtain ⟨dx, hp⟩ := B.at'.ob
    refine q_asg (ev_ix0 (ev_var rfl) hst) fun H1 x1 => ?_
    refine s_seq (s_if (b := false) (et_is (et_test (ev_op (ev_var rfl) ev_c (rv_eq rfl))) (by decide)) (fun z => by cases z) fun _ G0 y0 => s_next ?_)
    have w0 := x1.trans y0
    try dsimp only
    refine s_seq (s_if (b := false) (et_is (et_test (ev_op (ev_var rfl) ev_c (rv_eq rfl))) (by decide)) (fun z => by cases z) fun _ G1 y1 => s_next ?_)
    have w1 := w0.trans y1
    try dsimp only
    refine s_seq (s_if (b := false) (et_is (et_test (ev_op (ev_var rfl) ev_c (rv_eq rfl))) (by decide)) (fun z => by cases z) fun _ G2 y2 => s_next ?_)
    have w2 := w1.trans y2
    try dsimp only
    refine s_seq (s_if (b := false) (et_is (et_test (ev_op (ev_var rfl) ev_c (rv_eq rfl))) (by decide)) (fun z => by cases z) fun _ G3 y3 => s_next ?_)
    have w3 := w2.trans y3
    try dsimp only
    refine s_seq (s_if (b := true) (et_is (et_test (ev_op (ev_var rfl) ev_c (rv_eq rfl))) (by decide)) (fun _ GG yy => ?_) fun z => by cases z)
    have xx := w3.trans yy
    refine ⟨_, rfl, p, dx, _, rfl, xx _ _ hp, (hfl_no _ _ _ _ _ _ _ (by decide +kernel)), ?_⟩
    refine (ea_cons (ev_ix1 (ev_var rfl) (Evl.ex_t xx hst)) ea_nil) GG (Ex.refl GG) _ fun G y => ?_
    have x := xx.trans y
    refine ⟨p, m, X, i, rfl, S.ex x, ok, few.log, fun bad d H' nd x' h' => qi .noReading _ (by dsimp only [hdo]; rw [rd_none bad]) d H' (fresh_back x nd) (x.trans x') h', fun y my ey en H' x' => qn .notEnded (by dsimp only [hdo]; rw [rd_some B.rp my ey]; exact if_neg (by rw [en]; exact Bool.false_ne_true)) H' (x.trans x'), fun y my ey en t H' o tp => qo _ _ (by dsimp only [hdo]; rw [rd_some B.rp my ey]; exact if_pos en) _ H' (o.pre x) tp.dp⟩
  | stop i =>
    obtain ⟨u0, us0, rfl, h0, du0⟩ := dps_cons (show DpAll K H us (_ :: _) from du)
    cases h0
    obtain ⟨u1, us1, rfl, h1, du1⟩ := dps_cons du0
    cases h1
    cases du1
    obtain ⟨dW, dK, dL, dR, kvs, kept, l, B, fx⟩ := S
    have S : HsM K C R H p m X := ⟨dW, dK, dL, dR, kvs, kept, l, B, fx⟩
    obtain ⟨dx, hp⟩ := B.at'.ob
    refine q_asg (ev_ix0 (ev_var rfl) hst) fun H1 x1 => ?_
    refine s_seq (s_if (b := false) (et_is (et_test (ev_op (ev_var rfl) ev_c (rv_eq rfl))) (by decide)) (fun z => by cases z) fun _ G0 y0 => s_next ?_)
    have w0 := x1.trans y0
    try dsimp only
    refine s_seq (s_if (b := false) (et_is (et_test (ev_op (ev_var rfl) ev_c (rv_eq rfl))) (by decide)) (fun z => by cases z) fun _ G1 y1 => s_next ?_)
    have w1 := w0.trans y1
    try dsimp only
    refine s_seq (s_if (b := false) (et_is (et_test (ev_op (ev_var rfl) ev_c (rv_eq rfl))) (by decide)) (fun z => by cases z) fun _ G2 y2 => s_next ?_)
    have w2 := w1.trans y2
    try dsimp only
    refine s_seq (s_if (b := false) (et_is (et_test (ev_op (ev_var rfl) ev_c (rv_eq rfl))) (by decide)) (fun z => by cases z) fun _ G3 y3 => s_next ?_)
    have w3 := w2.trans y3
    try dsimp only
    refine s_seq (s_if (b := false) (et_is (et_test (ev_op (ev_var rfl) ev_c (rv_eq rfl))) (by decide)) (fun z => by cases z) fun _ G4 y4 => s_next ?_)
    have w4 := w3.trans y4
    try dsimp only
    refine s_seq (s_if (b := true) (et_is (et_test (ev_op (ev_var rfl) ev_c (rv_eq rfl))) (by decide)) (fun _ GG yy => ?_) fun z => by cases z)
    have xx := w4.trans yy
    refine ⟨_, rfl, p, dx, _, rfl, xx _ _ hp, (hfl_no _ _ _ _ _ _ _ (by decide +kernel)), ?_⟩
    refine (ea_cons (ev_ix1 (ev_var rfl) (Evl.ex_t xx hst)) ea_nil) GG (Ex.refl GG) _ fun G y => ?_
    have x := xx.trans y
    refine ⟨p, m, X, i, rfl, S.ex x, ok, fun bad d H' nd x' h' => qi .noReading _ (by dsimp only [hdo]; rw [rd_none bad]) d H' (fresh_back x nd) (x.trans x') h', fun gi H' o => ?_⟩
    obtain ⟨y, my, ey⟩ := List.mem_map.mp gi
    exact qo _ _ (by dsimp only [hdo]; rw [rd_some B.rp my ey]) _ H' (o.pre x) .non
  | hold i z =>
    obtain ⟨u0, us0, rfl, h0, du0⟩ := dps_cons (show DpAll K H us (_ :: _) from du)
    cases h0
    obtain ⟨u1, us1, rfl, h1, du1⟩ := dps_cons du0
    cases h1
    obtain ⟨u2, us2, rfl, h2, du2⟩ := dps_cons du1
    cases h2
    cases du2
    obtain ⟨dW, dK, dL, dR, kvs, kept, l, B, fx⟩ := S
    have S : HsM K C R H p m X := ⟨dW, dK, dL, dR, kvs, kept, l, B, fx⟩
    obtain ⟨dx, hp⟩ := B.at'.ob
    refine q_asg (ev_ix0 (ev_var rfl) hst) fun H1 x1 => ?_
    refine s_seq (s_if (b := false) (et_is (et_test (ev_op (ev_var rfl) ev_c (rv_eq rfl))) (by decide)) (fun z => by cases z) fun _ G0 y0 => s_next ?_)
    have w0 := x1.trans y0
    try dsimp only
    refine s_seq (s_if (b := false) (et_is (et_test (ev_op (ev_var rfl) ev_c (rv_eq rfl))) (by decide)) (fun z => by cases z) fun _ G1 y1 => s_next ?_)
    have w1 := w0.trans y1
    try dsimp only
    refine s_seq (s_if (b := false) (et_is (et_test (ev_op (ev_var rfl) ev_c (rv_eq rfl))) (by decide)) (fun z => by cases z) fun _ G2 y2 => s_next ?_)
    have w2 := w1.trans y2
    try dsimp only
    refine s_seq (s_if (b := false) (et_is (et_test (ev_op (ev_var rfl) ev_c (rv_eq rfl))) (by decide)) (fun z => by cases z) fun _ G3 y3 => s_next ?_)
    have w3 := w2.trans y3
    try dsimp only
    refine s_seq (s_if (b := false) (et_is (et_test (ev_op (ev_var rfl) ev_c (rv_eq rfl))) (by decide)) (fun z => by cases z) fun _ G4 y4 => s_next ?_)
    have w4 := w3.trans y4
    try dsimp only
    refine s_seq (s_if (b := false) (et_is (et_test (ev_op (ev_var rfl) ev_c (rv_eq rfl))) (by decide)) (fun z => by cases z) fun _ G5 y5 => s_next ?_)
    have w5 := w4.trans y5
    try dsimp only
    refine s_seq (s_if (b := true) (et_is (et_test (ev_op (ev_var rfl) ev_c (rv_eq rfl))) (by decide)) (fun _ GG yy => ?_) fun z => by cases z)
    have xx := w5.trans yy
    refine ⟨_, rfl, p, dx, _, rfl, xx _ _ hp, (hfl_no _ _ _ _ _ _ _ (by decide +kernel)), ?_⟩
    refine (ea_cons (ev_ix1 (ev_var rfl) (Evl.ex_t xx hst)) (ea_cons (ev_ix2 (ev_var rfl) (Evl.ex_t xx hst)) ea_nil)) GG (Ex.refl GG) _ fun G y => ?_
    have x := xx.trans y
    refine ⟨p, m, X, i, z, rfl, S.ex x, ok.1, ok.2, few.lg, fun bad d H' nd x' h' => qi .noLife _ (by dsimp only [hdo]; rw [if_neg (by rw [isLf, decide_eq_false bad]; exact Bool.false_ne_true)]) d H' (fresh_back x nd) (x.trans x') h', fun gi bad d H' nd x' h' => qi .noPlace _ (by dsimp only [hdo]; rw [if_pos (isLf_t gi), if_neg (by rw [inPl, decide_eq_false bad]; exact Bool.false_ne_true)]) d H' (fresh_back x nd) (x.trans x') h', fun gi gz H' o => qo _ _ (by dsimp only [hdo]; rw [if_pos (isLf_t gi), if_pos (inPl_t gz)]) _ H' (o.pre x) .non⟩
  | leave i =>
    obtain ⟨u0, us0, rfl, h0, du0⟩ := dps_cons (show DpAll K H us (_ :: _) from du)
    cases h0
    obtain ⟨u1, us1, rfl, h1, du1⟩ := dps_cons du0
    cases h1
    cases du1
    obtain ⟨dW, dK, dL, dR, kvs, kept, l, B, fx⟩ := S
    have S : HsM K C R H p m X := ⟨dW, dK, dL, dR, kvs, kept, l, B, fx⟩
    obtain ⟨dx, hp⟩ := B.at'.ob
    refine q_asg (ev_ix0 (ev_var rfl) hst) fun H1 x1 => ?_
    refine s_seq (s_if (b := false) (et_is (et_test (ev_op (ev_var rfl) ev_c (rv_eq rfl))) (by decide)) (fun z => by cases z) fun _ G0 y0 => s_next ?_)
    have w0 := x1.trans y0
    try dsimp only
    refine s_seq (s_if (b := false) (et_is (et_test (ev_op (ev_var rfl) ev_c (rv_eq rfl))) (by decide)) (fun z => by cases z) fun _ G1 y1 => s_next ?_)
    have w1 := w0.trans y1
    try dsimp only
    refine s_seq (s_if (b := false) (et_is (et_test (ev_op (ev_var rfl) ev_c (rv_eq rfl))) (by decide)) (fun z => by cases z) fun _ G2 y2 => s_next ?_)
    have w2 := w1.trans y2
    try dsimp only
    refine s_seq (s_if (b := false) (et_is (et_test (ev_op (ev_var rfl) ev_c (rv_eq rfl))) (by decide)) (fun z => by cases z) fun _ G3 y3 => s_next ?_)
    have w3 := w2.trans y3
    try dsimp only
    refine s_seq (s_if (b := false) (et_is (et_test (ev_op (ev_var rfl) ev_c (rv_eq rfl))) (by decide)) (fun z => by cases z) fun _ G4 y4 => s_next ?_)
    have w4 := w3.trans y4
    try dsimp only
    refine s_seq (s_if (b := false) (et_is (et_test (ev_op (ev_var rfl) ev_c (rv_eq rfl))) (by decide)) (fun z => by cases z) fun _ G5 y5 => s_next ?_)
    have w5 := w4.trans y5
    try dsimp only
    refine s_seq (s_if (b := false) (et_is (et_test (ev_op (ev_var rfl) ev_c (rv_eq rfl))) (by decide)) (fun z => by cases z) fun _ G6 y6 => s_next ?_)
    have w6 := w5.trans y6
    try dsimp only
    refine s_seq (s_if (b := true) (et_is (et_test (ev_op (ev_var rfl) ev_c (rv_eq rfl))) (by decide)) (fun _ GG yy => ?_) fun z => by cases z)
    have xx := w6.trans yy
    refine ⟨_, rfl, p, dx, _, rfl, xx _ _ hp, (hfl_no _ _ _ _ _ _ _ (by decide +kernel)), ?_⟩
    refine (ea_cons (ev_ix1 (ev_var rfl) (Evl.ex_t xx hst)) ea_nil) GG (Ex.refl GG) _ fun G y => ?_
    have x := xx.trans y
    refine ⟨p, m, X, i, rfl, S.ex x, ok, few.bg, fun bad d H' nd x' h' => qi .noLife _ (by dsimp only [hdo]; rw [if_neg (by rw [isLf, decide_eq_false bad]; exact Bool.false_ne_true)]) d H' (fresh_back x nd) (x.trans x') h', fun gi H' o => qo _ _ (by dsimp only [hdo]; rw [if_pos (isLf_t gi)]) _ H' (o.pre x) .non⟩
  | trim i =>
    obtain ⟨u0, us0, rfl, h0, du0⟩ := dps_cons (show DpAll K H us (_ :: _) from du)
    cases h0
    obtain ⟨u1, us1, rfl, h1, du1⟩ := dps_cons du0
    cases h1
    cases du1
    obtain ⟨dW, dK, dL, dR, kvs, kept, l, B, fx⟩ := S
    have S : HsM K C R H p m X := ⟨dW, dK, dL, dR, kvs, kept, l, B, fx⟩
    obtain ⟨dx, hp⟩ := B.at'.ob
    refine q_asg (ev_ix0 (ev_var rfl) hst) fun H1 x1 => ?_
    refine s_seq (s_if (b := false) (et_is (et_test (ev_op (ev_var rfl) ev_c (rv_eq rfl))) (by decide)) (fun z => by cases z) fun _ G0 y0 => s_next ?_)
    have w0 := x1.trans y0
    try dsimp only
    refine s_seq (s_if (b := false) (et_is (et_test (ev_op (ev_var rfl) ev_c (rv_eq rfl))) (by decide)) (fun z => by cases z) fun _ G1 y1 => s_next ?_)
    have w1 := w0.trans y1
    try dsimp only
    refine s_seq (s_if (b := false) (et_is (et_test (ev_op (ev_var rfl) ev_c (rv_eq rfl))) (by decide)) (fun z => by cases z) fun _ G2 y2 => s_next ?_)
    have w2 := w1.trans y2
    try dsimp only
    refine s_seq (s_if (b := false) (et_is (et_test (ev_op (ev_var rfl) ev_c (rv_eq rfl))) (by decide)) (fun z => by cases z) fun _ G3 y3 => s_next ?_)
    have w3 := w2.trans y3
    try dsimp only
    refine s_seq (s_if (b := false) (et_is (et_test (ev_op (ev_var rfl) ev_c (rv_eq rfl))) (by decide)) (fun z => by cases z) fun _ G4 y4 => s_next ?_)
    have w4 := w3.trans y4
    try dsimp only
    refine s_seq (s_if (b := false) (et_is (et_test (ev_op (ev_var rfl) ev_c (rv_eq rfl))) (by decide)) (fun z => by cases z) fun _ G5 y5 => s_next ?_)
    have w5 := w4.trans y5
    try dsimp only
    refine s_seq (s_if (b := false) (et_is (et_test (ev_op (ev_var rfl) ev_c (rv_eq rfl))) (by decide)) (fun z => by cases z) fun _ G6 y6 => s_next ?_)
    have w6 := w5.trans y6
    try dsimp only
    refine s_seq (s_if (b := false) (et_is (et_test (ev_op (ev_var rfl) ev_c (rv_eq rfl))) (by decide)) (fun z => by cases z) fun _ G7 y7 => s_next ?_)
    have w7 := w6.trans y7
    try dsimp only
    have xx := w7
    refine ⟨_, rfl, p, dx, _, rfl, xx _ _ hp, (hfl_no _ _ _ _ _ _ _ (by decide +kernel)), ?_⟩
    refine (ea_cons (ev_ix1 (ev_var rfl) (Evl.ex_t xx hst)) ea_nil) G7 (Ex.refl G7) _ fun G y => ?_
    have x := xx.trans y
    refine ⟨p, m, X, i, rfl, S.ex x, ok, few.lg, fun bad d H' nd x' h' => qi .noPlace _ (by dsimp only [hdo]; rw [if_neg (by rw [inPl, decide_eq_false bad]; exact Bool.false_ne_true)]) d H' (fresh_back x nd) (x.trans x') h', fun gi r hf d H' nd x' h' => qi .held _ (by dsimp only [hdo]; rw [if_pos (inPl_t gi), hf]) d H' (fresh_back x nd) (x.trans x') h', fun gi hf H' o => qo _ _ (by dsimp only [hdo]; rw [if_pos (inPl_t gi), hf]) _ H' (o.pre x) .non⟩
end
end K18
namespace K18
open PySem L2 L2H PyProof.Rows Tc Evl
abbrev sField : Stmt := topS 70
abbrev sTried : Stmt := topS 71
theorem scField : FnScope ["e"] ["e"] (defScope sField) := ⟨rfl, rfl, rfl, by decide +kernel, rfl, by decide +kernel, by decide +kernel⟩
theorem scTried : FnScope ["house", "step", "found", "kind", "field", "e"] ["house", "step"] (defScope sTried) := ⟨rfl, rfl, rfl, by decide +kernel, rfl, by decide +kernel, by decide +kernel⟩
theorem hdo_no {m : HM} {s : Stp} {r : Rf} {i : Option Int} (h : hdo m s = .no r i) : (rfN r).isSome = i.isSome := by
  cases s <;> dsimp only [hdo] at h <;> repeat' (split at h)
  all_goals first
    | (cases h; rfl)
    | cases h
def iV : Option Int → V
  | none => .non
  | some i => .int i
def spTriedH (K : PySem.W.Frag) (C R : Addr) : Sp := fun vs H Q _ => ∃ (p st : Addr) (m : HM) (X : Addr → Prop) (s : Stp) (us : List V), vs = [.ref p, .ref st] ∧ HsM K C R H p m X ∧ HFew m ∧ SqT K H st us ∧ DpAll K H us (stD s) ∧ stOk s ∧
  (∀ m' r, hdo m s = .ok m' r → ∀ t v H', HOut K C R H p X m' H' → Dp K H' v r → H' t = some (.tup [v, .str "", .non]) → Q (.ref t) H') ∧
  (∀ r i, hdo m s = .no r i → ∀ t H', Ex H H' → H' t = some (.tup [.non, .str (rfT r), iV i]) → Q (.ref t) H')
/-- the classes of the refusals -/
structure RfX (K : PySem.W.Frag) (mg : Str → Option Value) (CE : Addr) (cx : Rf → Addr) : Prop where
  ex : ∀ r, ExC K mg (rfX r) (cx r) (rfF r)
  on : ∀ r, PySem.W.exmOne K (.ref (cx r)) (.ref CE) = some true
  no : ∀ r n, rfN r = some n → PySem.W.findIn K (.ref (cx r)) n = some none
section
variable {P : Program} {w : World} {K : PySem.W.Frag} {mg : Str → Option Value} {base : Heap}
abbrev sKinds : Stmt := topS 60
theorem scKinds : FnScope ["e", "some", "words", "k"] ["e"] (defScope sKinds) := ⟨rfl, rfl, rfl, by decide +kernel, rfl, by decide +kernel, by decide +kernel⟩
set_option maxHeartbeats 2000000 in
theorem ok_kinds {f : Addr} {fd : FuncData} {k : Nat} (F : Fun K "_law_kinds" "_law_kinds" sKinds f fd) (N : Names mg) : FnP P w K mg base CX0 (k + 1) f fd ["e"] (spKinds K mg) := by
  refine okP F scKinds (fun p vs H Q E h => ?_) (fun cdv A outer s H vs Q E p hot hr h => ?_)
  · obtain ⟨D, d, fl, rfl, _⟩ := h
    rfl
  · obtain ⟨D, d, fl, rfl, C, hx, hd, q⟩ := h
    have hp : HotP (cxH CX0 P w K mg base ["e", "some", "words", "k"] "_law_kinds" (defScope sKinds) f cdv A outer s H E p) p := ⟨⟨hot.1, hot.2⟩, List.mem_singleton.mpr rfl⟩
    refine ⟨_, (pss_cons (ps_set (i := 1) scKinds.nd rfl (.inr rfl) (pe_lst (pa_cons (pe_is1 C.ck hp.2 hx (by rfl) N.isinstance (by rfl) (C.one 0 _ rfl) (pv 0)) (pa_cons (pe_is1 C.ck hp.2 hx (by rfl) N.isinstance (by rfl) (C.one 1 _ rfl) (pv 0)) (pa_cons (pe_is1 C.ck hp.2 hx (by rfl) N.isinstance (by rfl) (C.one 2 _ rfl) (pv 0)) (pa_cons (pe_is1 C.ck hp.2 hx (by rfl) N.isinstance (by rfl) (C.one 3 _ rfl) (pv 0)) pa_nil))))))
      (pss_cons (ps_set (i := 1) scKinds.nd rfl (.inr rfl) (pe_op op_cat (pv 1) (pe_lst (pa_cons (pe_is1 C.ck hp.2 hx (by rfl) N.isinstance (by rfl) (C.one 4 _ rfl) (pv 0)) (pa_cons (pe_is1 C.ck hp.2 hx (by rfl) N.isinstance (by rfl) (C.one 5 _ rfl) (pv 0)) (pa_cons (pe_is1 C.ck hp.2 hx (by rfl) N.isinstance (by rfl) (C.one 6 _ rfl) (pv 0)) (pa_cons (pe_is1 C.ck hp.2 hx (by rfl) N.isinstance (by rfl) (C.one 7 _ rfl) (pv 0)) pa_nil)))))))
      (pss_cons (ps_set (i := 1) scKinds.nd rfl (.inr rfl) (pe_op op_cat (pv 1) (pe_lst (pa_cons (pe_is1 C.ck hp.2 hx (by rfl) N.isinstance (by rfl) (C.one 8 _ rfl) (pv 0)) (pa_cons (pe_is1 C.ck hp.2 hx (by rfl) N.isinstance (by rfl) (C.one 9 _ rfl) (pv 0)) (pa_cons (pe_is1 C.ck hp.2 hx (by rfl) N.isinstance (by rfl) (C.one 10 _ rfl) (pv 0)) (pa_cons (pe_is1 C.ck hp.2 hx (by rfl) N.isinstance (by rfl) (C.one 11 _ rfl) (pv 0)) pa_nil)))))))
      (pss_cons (ps_set (i := 1) scKinds.nd rfl (.inr rfl) (pe_op op_cat (pv 1) (pe_lst (pa_cons (pe_is1 C.ck hp.2 hx (by rfl) N.isinstance (by rfl) (C.one 12 _ rfl) (pv 0)) (pa_cons (pe_is1 C.ck hp.2 hx (by rfl) N.isinstance (by rfl) (C.one 13 _ rfl) (pv 0)) (pa_cons (pe_is1 C.ck hp.2 hx (by rfl) N.isinstance (by rfl) (C.one 14 _ rfl) (pv 0)) (pa_cons (pe_is1 C.ck hp.2 hx (by rfl) N.isinstance (by rfl) (C.one 15 _ rfl) (pv 0)) pa_nil)))))))
      (pss_cons (ps_set (i := 1) scKinds.nd rfl (.inr rfl) (pe_op op_cat (pv 1) (pe_lst (pa_cons (pe_is1 C.ck hp.2 hx (by rfl) N.isinstance (by rfl) (C.one 16 _ rfl) (pv 0)) (pa_cons (pe_is1 C.ck hp.2 hx (by rfl) N.isinstance (by rfl) (C.one 17 _ rfl) (pv 0)) (pa_cons (pe_is1 C.ck hp.2 hx (by rfl) N.isinstance (by rfl) (C.one 18 _ rfl) (pv 0)) pa_nil))))))
      (pss_cons (ps_set (i := 1) scKinds.nd rfl (.inr rfl) (pe_op op_cat (pv 1) (pe_lst (pa_cons (pe_is1 C.ck hp.2 hx (by rfl) N.isinstance (by rfl) (C.one 19 _ rfl) (pv 0)) (pa_cons (pe_is1 C.ck hp.2 hx (by rfl) N.isinstance (by rfl) (C.one 20 _ rfl) (pv 0)) (pa_cons (pe_is1 C.ck hp.2 hx (by rfl) N.isinstance (by rfl) (C.one 21 _ rfl) (pv 0)) (pa_cons (pe_is1 C.ck hp.2 hx (by rfl) N.isinstance (by rfl) (C.one 22 _ rfl) (pv 0)) pa_nil)))))))
      (pss_cons (ps_set (i := 1) scKinds.nd rfl (.inr rfl) (pe_op op_cat (pv 1) (pe_lst (pa_cons (pe_is1 C.ck hp.2 hx (by rfl) N.isinstance (by rfl) (C.one 23 _ rfl) (pv 0)) (pa_cons (pe_is1 C.ck hp.2 hx (by rfl) N.isinstance (by rfl) (C.one 24 _ rfl) (pv 0)) (pa_cons (pe_isV C.ck hp.2 hx (by rfl) N.isinstance (by rfl) N.ve C.ve (pv 0)) pa_nil))))))
      (pss_cons (ps_set (i := 2) scKinds.nd rfl (.inr rfl) (pe_lst (pa_cons pe_str (pa_cons pe_str (pa_cons pe_str (pa_cons pe_str (pa_cons pe_str (pa_cons pe_str (pa_cons pe_str (pa_cons pe_str (pa_cons pe_str (pa_cons pe_str pa_nil))))))))))))
      (pss_cons (ps_set (i := 2) scKinds.nd rfl (.inr rfl) (pe_op op_cat (pv 2) (pe_lst (pa_cons pe_str (pa_cons pe_str (pa_cons pe_str (pa_cons pe_str (pa_cons pe_str (pa_cons pe_str (pa_cons pe_str (pa_cons pe_str pa_nil)))))))))))
      (pss_cons (ps_set (i := 2) scKinds.nd rfl (.inr rfl) (pe_op op_cat (pv 2) (pe_lst (pa_cons pe_str (pa_cons pe_str (pa_cons pe_str (pa_cons pe_str (pa_cons pe_str (pa_cons pe_str (pa_cons pe_str (pa_cons pe_str pa_nil)))))))))))
      (pss_one (ps_ret (pe_join pe_str (pe_lcH (own := [("k", 3)]) (g := gName 3) (tt := tB (tOp (rIxL K) (tVar 1) (tVar 3))) (te := tOp (rIxL K) (tVar 2) (tVar 3)) hp scKinds.nd (pi_range1H (by rfl) N.range (pa_cons pe_int pa_nil)) (blkOk_by (N := ["e", "some", "words", "k"]) (sc := defScope sKinds) (by decide +kernel)) (fun _ _ _ _ _ => pg_name (i := 3) scKinds.nd rfl (Or.inl rfl)) (fun _ _ _ _ _ => (pts_one (pt_val (pe_ix ix_list (pv 1) (pv 3) (fun _ _ => rfl))))) (fun _ _ _ _ _ => (pe_ix ix_list (pv 2) (pv 3) (fun _ _ => rfl))))))))))))))))), ?_⟩
    refine q_asgL (el_lst (ea_cons (ev_is1 (ev_var rfl) (xs_ex (Ex.refl H) hd)) (ea_cons (ev_is1 (ev_var rfl) (xs_ex (Ex.refl H) hd)) (ea_cons (ev_is1 (ev_var rfl) (xs_ex (Ex.refl H) hd)) (ea_cons (ev_is1 (ev_var rfl) (xs_ex (Ex.refl H) hd)) ea_nil)))) (by simp)) (fun p0 H0 _ x0 h0 => ?_)
    refine q_asgL (el_catV (ev_var rfl) h0 (el_lst (ea_cons (ev_is1 (ev_var rfl) (xs_ex x0 hd)) (ea_cons (ev_is1 (ev_var rfl) (xs_ex x0 hd)) (ea_cons (ev_is1 (ev_var rfl) (xs_ex x0 hd)) (ea_cons (ev_is1 (ev_var rfl) (xs_ex x0 hd)) ea_nil)))) (by simp)) (by simp)) (fun p1 H1 _ y1 h1 => ?_)
    have x1 := x0.trans y1
    refine q_asgL (el_catV (ev_var rfl) h1 (el_lst (ea_cons (ev_is1 (ev_var rfl) (xs_ex x1 hd)) (ea_cons (ev_is1 (ev_var rfl) (xs_ex x1 hd)) (ea_cons (ev_is1 (ev_var rfl) (xs_ex x1 hd)) (ea_cons (ev_is1 (ev_var rfl) (xs_ex x1 hd)) ea_nil)))) (by simp)) (by simp)) (fun p2 H2 _ y2 h2 => ?_)
    have x2 := x1.trans y2
    refine q_asgL (el_catV (ev_var rfl) h2 (el_lst (ea_cons (ev_is1 (ev_var rfl) (xs_ex x2 hd)) (ea_cons (ev_is1 (ev_var rfl) (xs_ex x2 hd)) (ea_cons (ev_is1 (ev_var rfl) (xs_ex x2 hd)) (ea_cons (ev_is1 (ev_var rfl) (xs_ex x2 hd)) ea_nil)))) (by simp)) (by simp)) (fun p3 H3 _ y3 h3 => ?_)
    have x3 := x2.trans y3
    refine q_asgL (el_catV (ev_var rfl) h3 (el_lst (ea_cons (ev_is1 (ev_var rfl) (xs_ex x3 hd)) (ea_cons (ev_is1 (ev_var rfl) (xs_ex x3 hd)) (ea_cons (ev_is1 (ev_var rfl) (xs_ex x3 hd)) ea_nil))) (by simp)) (by simp)) (fun p4 H4 _ y4 h4 => ?_)
    have x4 := x3.trans y4
    refine q_asgL (el_catV (ev_var rfl) h4 (el_lst (ea_cons (ev_is1 (ev_var rfl) (xs_ex x4 hd)) (ea_cons (ev_is1 (ev_var rfl) (xs_ex x4 hd)) (ea_cons (ev_is1 (ev_var rfl) (xs_ex x4 hd)) (ea_cons (ev_is1 (ev_var rfl) (xs_ex x4 hd)) ea_nil)))) (by simp)) (by simp)) (fun p5 H5 _ y5 h5 => ?_)
    have x5 := x4.trans y5
    refine q_asgL (el_catV (ev_var rfl) h5 (el_lst (ea_cons (ev_is1 (ev_var rfl) (xs_ex x5 hd)) (ea_cons (ev_is1 (ev_var rfl) (xs_ex x5 hd)) (ea_cons (ev_is1 (ev_var rfl) (xs_ex x5 hd)) ea_nil))) (by simp)) (by simp)) (fun p6 H6 _ y6 h6 => ?_)
    have x6 := x5.trans y6
    refine q_asgL (el_lst (ea_cons ev_c (ea_cons ev_c (ea_cons ev_c (ea_cons ev_c (ea_cons ev_c (ea_cons ev_c (ea_cons ev_c (ea_cons ev_c (ea_cons ev_c (ea_cons ev_c ea_nil)))))))))) (by simp)) (fun p7 H7 _ y7 h7 => ?_)
    have x7 := x6.trans y7
    refine q_asgL (el_catV (ev_var rfl) h7 (el_lst (ea_cons ev_c (ea_cons ev_c (ea_cons ev_c (ea_cons ev_c (ea_cons ev_c (ea_cons ev_c (ea_cons ev_c (ea_cons ev_c ea_nil)))))))) (by simp)) (by simp)) (fun p8 H8 _ y8 h8 => ?_)
    have x8 := x7.trans y8
    refine q_asgL (el_catV (ev_var rfl) h8 (el_lst (ea_cons ev_c (ea_cons ev_c (ea_cons ev_c (ea_cons ev_c (ea_cons ev_c (ea_cons ev_c (ea_cons ev_c (ea_cons ev_c ea_nil)))))))) (by simp)) (by simp)) (fun p9 H9 _ y9 h9 => ?_)
    have x9 := x8.trans y9
    rw [flags_eq fun i => V.bl (fl.getD i false)] at h6
    exact kinds_end (v := .ref p.1) (((y7.trans y8).trans y9) p6 _ h6) h9 fun H' x' => q H' (x9.trans x')
set_option maxHeartbeats 2000000 in
theorem ok_field {f : Addr} {fd : FuncData} {k : Nat} (F : Fun K "_law_field" "_law_field" sField f fd) (N : Names mg) : FnP P w K mg base CX0 (k + 1) f fd ["e"] (spFieldN K mg) := by
  refine okP F scField (fun p vs H Q E h => ?_) (fun cdv A outer s H vs Q E p hot hr h => ?_)
  · obtain ⟨D, d, fl, rfl, _⟩ := h
    rfl
  · obtain ⟨D, d, fl, rfl, C, T, hx, hd, q1, q2⟩ := h
    have hp : HotP (cxH CX0 P w K mg base ["e"] "_law_field" (defScope sField) f cdv A outer s H E p) p := ⟨⟨hot.1, hot.2⟩, List.mem_singleton.mpr rfl⟩
    have hno : ∀ m : Str, fieldOf fl = some m → PySem.W.findIn K (.ref D) m = some none := fun m e => (q1 m e).1
    refine ⟨_, (pss_cons (ps_if (pt_val (pe_isT1 C.ck hp.2 hx (by rfl) N.isinstance (fun _ _ _ => rfl) (pv 0) (.cons (by rfl) (by decide) (C.one 8 _ rfl) (.cons (by rfl) (by decide) (C.one 22 _ rfl) .nil)))) (pss_one (ps_ret (pe_c (c := fieldOf fl = some (Str.ofString "at")) fun h => pe_xp T (hno _ h) hp.2 hx (pv 0)))) pss_nil)
      (pss_cons (ps_if (pt_val (pe_isT1 C.ck hp.2 hx (by rfl) N.isinstance (fun _ _ _ => rfl) (pv 0) (.cons (by rfl) (by decide) (C.one 6 _ rfl) (.cons (by rfl) (by decide) (C.one 3 _ rfl) .nil)))) (pss_one (ps_ret (pe_c (c := fieldOf fl = some (Str.ofString "who")) fun h => pe_xp T (hno _ h) hp.2 hx (pv 0)))) pss_nil)
      (pss_cons (ps_if (pt_val (pe_isT1 C.ck hp.2 hx (by rfl) N.isinstance (fun _ _ _ => rfl) (pv 0) (.cons (by rfl) (by decide) (C.one 9 _ rfl) (.cons (by rfl) (by decide) (C.one 24 _ rfl) (.cons (by rfl) (by decide) (C.one 16 _ rfl) (.cons (by rfl) (by decide) (C.one 19 _ rfl) .nil)))))) (pss_one (ps_ret (pe_c (c := fieldOf fl = some (Str.ofString "number")) fun h => pe_xp T (hno _ h) hp.2 hx (pv 0)))) pss_nil)
      (pss_cons (ps_if (pt_val (pe_isT1 C.ck hp.2 hx (by rfl) N.isinstance (fun _ _ _ => rfl) (pv 0) (.cons (by rfl) (by decide) (C.one 5 _ rfl) (.cons (by rfl) (by decide) (C.one 20 _ rfl) .nil)))) (pss_one (ps_ret (pe_c (c := fieldOf fl = some (Str.ofString "key")) fun h => pe_xp T (hno _ h) hp.2 hx (pv 0)))) pss_nil)
      (pss_cons (ps_if (pt_val (pe_is1 C.ck hp.2 hx (by rfl) N.isinstance (by rfl) (C.one 14 _ rfl) (pv 0))) (pss_one (ps_ret (pe_c (c := fieldOf fl = some (Str.ofString "name")) fun h => pe_xp T (hno _ h) hp.2 hx (pv 0)))) pss_nil)
      (pss_one (ps_ret (pe_ifExp (pt_val (pe_is1 C.ck hp.2 hx (by rfl) N.isinstance (by rfl) (C.one 21 _ rfl) (pv 0))) (pe_c (c := fieldOf fl = some (Str.ofString "many")) fun h => pe_xp T (hno _ h) hp.2 hx (pv 0)) pe_non)))))))), ?_⟩
    have tell : ∀ (m : Str) (G : Hp) (D' : Ends), fieldOf fl = some m → Ex H G → (∀ v H', D'.rt v H' = Q v H') → tRet (tXc (fieldOf fl = some m) (tXp p d m (tVar 0))) D' [some (.ref p.1)] G := fun m G D' e x hD => by
      obtain ⟨_, b, fs, v, eb, hb, hl, q⟩ := q1 m e
      refine ⟨e, .ref p.1, rfl, rfl, b, fs, v, eb, x _ _ hb, hl, ?_⟩
      rw [hD]
      exact q G x
    refine s_seq (s_if (b := (fl.getD 8 false || (fl.getD 22 false || false))) (et_B (ev_isM (ev_var rfl) (xs_ex (Ex.refl H) hd))) (fun c0 G0 y0 => tell "at" G0 _ (by unfold fieldOf; rw [if_pos c0]) (((Ex.refl H)).trans y0) fun _ _ => rfl) fun c0 G0 y0 => s_next ?_)
    have x0 := ((Ex.refl H)).trans y0
    refine s_seq (s_if (b := (fl.getD 6 false || (fl.getD 3 false || false))) (et_B (ev_isM (ev_var rfl) (xs_ex x0 hd))) (fun c1 G1 y1 => tell "who" G1 _ (by unfold fieldOf; rw [if_neg (by rw [c0]; exact Bool.false_ne_true), if_pos c1]) ((x0).trans y1) fun _ _ => rfl) fun c1 G1 y1 => s_next ?_)
    have x1 := (x0).trans y1
    refine s_seq (s_if (b := (fl.getD 9 false || (fl.getD 24 false || (fl.getD 16 false || (fl.getD 19 false || false))))) (et_B (ev_isM (ev_var rfl) (xs_ex x1 hd))) (fun c2 G2 y2 => tell "number" G2 _ (by unfold fieldOf; rw [if_neg (by rw [c0]; exact Bool.false_ne_true), if_neg (by rw [c1]; exact Bool.false_ne_true), if_pos c2]) ((x1).trans y2) fun _ _ => rfl) fun c2 G2 y2 => s_next ?_)
    have x2 := (x1).trans y2
    refine s_seq (s_if (b := (fl.getD 5 false || (fl.getD 20 false || false))) (et_B (ev_isM (ev_var rfl) (xs_ex x2 hd))) (fun c3 G3 y3 => tell "key" G3 _ (by unfold fieldOf; rw [if_neg (by rw [c0]; exact Bool.false_ne_true), if_neg (by rw [c1]; exact Bool.false_ne_true), if_neg (by rw [c2]; exact Bool.false_ne_true), if_pos c3]) ((x2).trans y3) fun _ _ => rfl) fun c3 G3 y3 => s_next ?_)
    have x3 := (x2).trans y3
    refine s_seq (s_if (b := fl.getD 14 false) (et_B (ev_is1 (ev_var rfl) (xs_ex x3 hd))) (fun c4 G4 y4 => tell "name" G4 _ (by unfold fieldOf; rw [if_neg (by rw [c0]; exact Bool.false_ne_true), if_neg (by rw [c1]; exact Bool.false_ne_true), if_neg (by rw [c2]; exact Bool.false_ne_true), if_neg (by rw [c3]; exact Bool.false_ne_true), if_pos c4]) ((x3).trans y4) fun _ _ => rfl) fun c4 G4 y4 => s_next ?_)
    have x4 := (x3).trans y4
    dsimp only
    unfold tRet tIf
    refine (et_B (ev_is1 (pt := p) (d := d) (b := fl.getD 21 false) (te := tVar 0) (σ := [some (.ref p.1)]) (H := G4) (ev_var rfl) (xs_ex x4 hd))) G4 (Ex.refl G4) _ fun G9 y9 => ?_
    refine ite2 (fun c9 => ?_) (fun c9 => ?_)
    · exact (tell "many" G9 { nx := fun _ H' => Q .non H', rt := Q } (by unfold fieldOf; rw [if_neg (by rw [c0]; exact Bool.false_ne_true), if_neg (by rw [c1]; exact Bool.false_ne_true), if_neg (by rw [c2]; exact Bool.false_ne_true), if_neg (by rw [c3]; exact Bool.false_ne_true), if_neg (by rw [c4]; exact Bool.false_ne_true), if_pos c9]) ((x4).trans y9) fun _ _ => rfl)
    · refine q2 ?_ G9 ((x4).trans y9)
      unfold fieldOf
      rw [if_neg (by rw [c0]; exact Bool.false_ne_true), if_neg (by rw [c1]; exact Bool.false_ne_true), if_neg (by rw [c2]; exact Bool.false_ne_true), if_neg (by rw [c3]; exact Bool.false_ne_true), if_neg (by rw [c4]; exact Bool.false_ne_true), if_neg c9]

set_option maxHeartbeats 1000000 in
theorem ok_triedH {f C R CE : Addr} {fd : FuncData} {cx : Rf → Addr} {kC kKn kF k : Nat} (F : Fun K "_law_house_tried" "_law_house_tried" sTried f fd) (mE : mg "TideError" = some (.ref CE)) (RX : RfX K mg CE cx)
    (dC : OwnX P w K mg base "_law_house_call" ["house", "step"] kC (spCallH K C R cx)) (hC : kC ≤ k) (dKn : OwnP P w K mg base "_law_kinds" ["e"] kKn (spKinds K mg)) (hKn : kKn ≤ k) (dF : OwnP P w K mg base "_law_field" ["e"] kF (spFieldN K mg)) (hF : kF ≤ k) :
    FnOk P w K mg base CX0 (k + 1) f fd ["house", "step"] (spTriedH K C R) := by
  refine F.ok scTried (fun vs H Q E h => ?_) (fun cdv A outer s H vs Q E hr h => ?_)
  · obtain ⟨p, st, m, X, sp, us, rfl, _⟩ := h
    rfl
  · obtain ⟨p, st, m, X, sp, us, rfl, S, few, hst, du, ok, q1, q2⟩ := h
    refine ⟨_, pss_cons (ps_set (i := 2) scTried.nd rfl (.inl rfl) pe_non)
      (pss_cons (ps_set (i := 3) scTried.nd rfl (.inl rfl) pe_str)
      (pss_cons (ps_set (i := 4) scTried.nd rfl (.inl rfl) pe_non)
      (pss_cons (L2N.ps_try_as (i := 5) (c := .ref CE) (tb := fun W => tAsg (tCallS (spCallH K C R cx) (WE W) (tCons (tVar 0) (tCons (tVar 1) tNil))) (gName 2)) (ts := fun a cls d => tPar 3 4 (tCons (tKn K mg a cls d 5) (tCons (tFlN K mg a cls d 5) tNil))) rfl rfl scTried.nd rfl rfl ⟨rfl, by decide, .inl mE⟩ none_out
        (fun W pn xe tk _ => pss_one (ps_set (i := 2) scTried.nd rfl (.inl rfl) (pe_ownX dC tk hr hC (by rfl) (pa_cons (pv 0) (pa_cons (pv 1) pa_nil)))))
        (fun a oe cls d pn hz hf => pss_one (ps_parH (i := 3) (j := 4) (hot_suite hz hf).c scTried.nd rfl rfl (by decide) rfl rfl (pa_cons (pe_kn hz hf dKn hr hKn (by rfl) (pv 5)) (pa_cons (pe_flN hz hf dF hr hF (by rfl) (pv 5)) pa_nil)) rfl)))
      (pss_one (ps_ret (pe_tup (pa_cons (pv 2) (pa_cons (pv 3) (pa_cons (pv 4) pa_nil))))))))), ?_⟩
    refine q_asg ev_c fun H1 x1 => q_asg ev_c fun H2 x2 => q_asg ev_c fun H3 x3 => s_seq ?_
    have xa := (x1.trans x2).trans x3
    refine ⟨.ref p, rfl, .ref st, rfl, p, st, m, X, sp, us, rfl, S.ex xa, few, Evl.ex_t xa hst, dps_same xa _ _ du, ok, fun m' r e v H5 o hv => ?_, fun r e H5 x5 => ?_, fun r i e b H5 nb x5 h5 => ?_⟩
    · exact ⟨v, rfl, .str "", rfl, .non, rfl, sz_of (by simp), fun t ht => q1 m' r e t v _ ((o.pre xa).post (Ex.new ht)) (dp_same (Ex.new ht) _ _ hv) upd_same⟩
    · have nf : fieldOf (rfF r) = none := by
        have := hdo_no e
        rw [rf_field]
        cases z : rfN r with
        | none => rfl
        | some n => rw [z] at this; cases this
      refine ⟨true, RX.on r, fun _ a na => ⟨rfl, cx r, rfF r, rfl, (RX.ex r).kd, (fun b e => by cases e), fun H6 x6 => ⟨rfl, cx r, rfF r, rfl, (RX.ex r).kd, (RX.ex r).xf, (fun b e => by cases e), (fun n e => by rw [nf] at e; cases e), fun _ H7 x7 => ?_⟩⟩, fun e => by cases e⟩
      rw [rf_text]
      exact ⟨.str (rfT r), .non, rfl, .non, rfl, .str (rfT r), rfl, .non, rfl, sz_of (by simp), fun t ht => q2 r none e t _ (((xa.trans x5).trans (x6.trans x7)).trans (Ex.new ht)) upd_same⟩
    · have hn : ∃ n, rfN r = some n := by
        have := hdo_no e
        cases z : rfN r with
        | none => rw [z] at this; cases this
        | some n => exact ⟨n, rfl⟩
      obtain ⟨n, hn⟩ := hn
      rw [hn] at h5
      refine ⟨true, RX.on r, fun _ a na => ⟨rfl, cx r, rfF r, rfl, (RX.ex r).kd, (fun c e => ⟨_, Option.some.inj e ▸ h5⟩), fun H6 x6 => ⟨rfl, cx r, rfF r, rfl, (RX.ex r).kd, (RX.ex r).xf, (fun c e => ⟨_, Option.some.inj e ▸ x6 _ _ h5⟩), (fun n' e' => ?_), fun e => by rw [rf_field, hn] at e; cases e⟩⟩, fun e => by cases e⟩
      rw [rf_field, hn] at e'
      cases e'
      refine ⟨RX.no r n hn, b, _, .int i, rfl, x6 _ _ h5, ?_, fun H7 x7 => ?_⟩
      · show List.lookup n [(n, V.int i)] = some (.int i)
        rw [List.lookup_cons, beq_self_eq_true]
      rw [rf_text]
      exact ⟨.str (rfT r), .int i, rfl, .non, rfl, .str (rfT r), rfl, .int i, rfl, sz_of (by simp), fun t ht => q2 r (some i) e t _ (((xa.trans x5).trans (x6.trans x7)).trans (Ex.new ht)) upd_same⟩
end
end K18
/-! what the top leaves, looked at once: defs, classes, exceptions -/
namespace Tc
open PySem PySem.Spec PyProof.Rows L2 He
def rfsO (g : Addr → Option Obj) (a : Addr) : List Addr := match g a with
  | some o => (match o.data with
    | .seq its _ => its.toList.flatMap refV
    | .dict es _ => es.toList.flatMap fun e => refV e.val
    | .func fd => refV fd.code ++ (refV fd.defaults ++ (refV fd.kwdefaults ++ fd.closure.map (·.2)))
    | .cls cd => cd.ns :: cd.mro.flatMap refV
    | _ => [])
  | none => []
/-- by steps from what is known -/
def reach (g : Addr → Option Obj) : Nat → List Addr → List Addr → List Addr
  | 0, seen, fr => seen ++ fr
  | n + 1, seen, fr => reach g n (seen ++ fr) (((fr.flatMap (rfsO g)).eraseDups).filter fun a => !(seen.contains a || fr.contains a))
abbrev FnC : Type := Option (Str × Str × Arguments × FuncBody × Scope × Addr × List Str × Addr)
def xcW (K : PySem.W.Frag) (x : Str) : FnC := match K.lookup (ma K (ga K x) "__init__") with
  | some ⟨_, _, .func fd, _⟩ => some (fd.name, fd.qualname, fd.params, fd.body, fd.scope, fd.globals, fd.closure.map (·.1), fd.builtins)
  | _ => none
/-- an exception's own __init__ -/
structure XcD where
  cls : Str
  qual : Str
  params : Arguments
  body : List Stmt
  scope : Scope
def XcD.val (d : XcD) : FnC := some ("__init__", d.qual, d.params, .stmts d.body, d.scope, mainGlobals, ["__class__"], builtinsNs)
def clsObjB (K : PySem.W.Frag) (C : Addr) : Bool := match K.lookup C with
  | some ⟨.type t, _, .cls cd, sl⟩ => (match cd.mro, sl.toList with
    | .ref C' :: bm, [_, _, _, _, some (.builtin n), _] => decide (t = "type") && (decide (C' = C) && (decide (n = "ValueError.__new__") && (!cd.hasDel && (cd.hasDict && PySem.HandSPX.refsVE bm))))
    | _, _ => false)
  | _ => false
theorem clsObjB_ok {K : PySem.W.Frag} {C : Addr} (h : clsObjB K C = true) : ∃ nm q N bs bm sn sub ab col dd k0 k1 k2 k3 k5, K.lookup C = some (excClassObj nm q C N bs bm true sn sub ab col dd k0 k1 k2 k3 k5 "ValueError.__new__") ∧ PySem.HandSPX.refsVE bm = true := by
  unfold clsObjB at h
  split at h
  · rename_i t dd cd sl hl
    split at h
    · rename_i C' bm k0 k1 k2 k3 n k5 hm hs
      obtain ⟨h1, h⟩ := ba h
      obtain ⟨h2, h⟩ := ba h
      obtain ⟨h3, h⟩ := ba h
      obtain ⟨h4, h⟩ := ba h
      obtain ⟨h5, h6⟩ := ba h
      have e1 := of_decide_eq_true h1
      have e2 := of_decide_eq_true h2
      have e3 := of_decide_eq_true h3
      have es : sl = #[k0, k1, k2, k3, some (.builtin n), k5] := by
        rw [← Array.toList_inj]
        exact hs
      obtain ⟨nm, bs, mro, ns, q, hasD, sn, sub, ab, col, hasDel⟩ := cd
      dsimp only at hm h4 h5
      have e4 : hasDel = false := by
        cases hasDel with
        | false => rfl
        | true => cases h4
      subst e1 e2 e3 es hm h5 e4
      exact ⟨nm, q, ns, bs, bm, sn, sub, ab, col, dd, k0, k1, k2, k3, k5, hl, h6⟩
    · cases h
  · cases h
def xcB (K : PySem.W.Frag) (file x fld : Str) (fl : List Bool) : Bool :=
  eqO (PySem.W.nsIn K mainGlobals x) (some (some (.ref (ga K x)))) && (clsObjB K (ga K x) && (oexB K (ga K x) && (excB K (ga K x) fl && (eqO (PySem.W.findIn K (.ref (ga K x)) "__init__") (some (some (.ref (ma K (ga K x) "__init__")))) &&
  (decide (PySem.W.typeIn K (.ref (ma K (ga K x) "__init__")) = some (.type "function")) && (eqO (PySem.W.findIn K (.ref (ga K x)) fld) (some none) && (match K.lookup (ma K (ga K x) "__init__") with
    | some ⟨_, _, .func fd, _⟩ => (match fd.defaults, fd.code, fd.closure with
      | .none, .ref A, [(_, W)] => PySem.W.codeIn K (.ref A) fd.qualname && (supB K file (ga K x) A && (match K.lookup W with
        | some ⟨_, _, .cell (some (.ref C')), _⟩ => decide (C' = ga K x)
        | _ => false))
      | _, _, _ => false)
    | _ => false)))))))
/-- all that an exception of the text is known for -/
structure XcOk (P : Program) (K : PySem.W.Frag) (mg : Str → Option Value) (d : XcD) (fld : Str) (fl : List Bool) (C I W A : Addr) : Prop where
  T : OexC K C
  E : ExC K mg d.cls C fl
  Z : SupF P K mg C A
  iC : PySem.W.findIn K (.ref C) "__init__" = some (some (.ref I))
  tI : PySem.W.typeIn K (.ref I) = some (.type "function")
  F : ∃ oc od sl kv dc pm an ct, K.lookup I = some ⟨oc, od, .func (PySem.W.fnX "__init__" d.qual d.params d.body d.scope [("__class__", W)] .none kv dc pm an (.ref A) ct), sl⟩
  cd : PySem.W.codeIn K (.ref A) d.qual = true
  cW : ∃ ol : Obj, K.lookup W = some ol ∧ ol.data = .cell (some (.ref C))
  no : PySem.W.findIn K (.ref C) fld = some none
  mgC : mg d.cls = some (.ref C)
theorem xc_ok {P : Program} {K : PySem.W.Frag} {h : Heap} {mg : Str → Option Value} {d : XcD} {fld : Str} {fl : List Bool} (X : K.In h) (G : h.Ns mainGlobals mg) (top : (P.main.scope.names.lookup ("super" : Str)).isSome = false) (e : xcW K d.cls = d.val) (c : xcB K P.main.file d.cls fld fl = true) : ∃ I W A, XcOk P K mg d fld fl (ga K d.cls) I W A := by
  unfold xcB at c
  obtain ⟨c1, c⟩ := ba c
  obtain ⟨c2, c⟩ := ba c
  obtain ⟨c3, c⟩ := ba c
  obtain ⟨c4, c⟩ := ba c
  obtain ⟨c5, c⟩ := ba c
  obtain ⟨c6, c⟩ := ba c
  obtain ⟨c7, c8⟩ := ba c
  have a1 := eqO_ok c1
  obtain ⟨nm, q, N, bs, bm, sn, sub, ab, col, dd, k0, k1, k2, k3, k5, xL, xR⟩ := clsObjB_ok c2
  unfold xcW at e
  cases hl : K.lookup (ma K (ga K d.cls) "__init__") with
  | none =>
    rw [hl] at c8
    cases c8
  | some o =>
    obtain ⟨oc, od, dt, osl⟩ := o
    rw [hl] at c8 e
    cases dt with
    | func fd =>
      obtain ⟨n1, n2, n3, n4, n5, n6, n7, n8, n9, n10, n11, n12, n13, n14, n15⟩ := fd
      have e2 : (some (n1, n2, n3, n4, n5, n6, n7.map (·.1), n15) : FnC) = some (("__init__" : Str), d.qual, d.params, FuncBody.stmts d.body, d.scope, mainGlobals, [("__class__" : Str)], builtinsNs) := e
      simp only [Option.some.injEq, Prod.mk.injEq] at e2
      obtain ⟨h1, h2, h3, h4, h5, h6, h7, h8⟩ := e2
      subst h1 h2 h3 h4 h5 h6 h8
      dsimp only at c8
      split at c8
      · rename_i A s W
        have h7' : s = "__class__" := (List.cons.inj h7).1
        subst h7'
        obtain ⟨d1, c9⟩ := ba c8
        obtain ⟨d2, d3⟩ := ba c9
        refine ⟨_, W, A, oexB_ok xL xR c3, excB_ok X G a1 c4, supB_ok X G top d2, eqO_ok c5, of_decide_eq_true c6, ⟨oc, od, osl, _, _, _, _, _, hl⟩, d1, ?_, eqO_ok c7, PySem.W.mg_of X G a1⟩
        split at d3
        · rename_i w0 w1 C' w2 hw
          rw [of_decide_eq_true d3] at hw
          exact ⟨_, hw, rfl⟩
        · cases d3
      · cases c8
    | _ => cases c8
/-! ### the look -/
abbrev AlM : Type := Bool × List FnW × List FnC
def obsM (fs : List (PySem.W.Frag → Bool)) (fn : List DefD) (xs : List XcD) (K : PySem.W.Frag) : AlM := ((fs.all fun f => f K) && fn.all fun d => d.ok K, fn.map (fun d => fnW K d.at_), xs.map fun x => xcW K x.cls)
def valM (fn : List DefD) (xs : List XcD) : AlM := (true, fn.map DefD.val, xs.map XcD.val)
def SaysM (fs : List (PySem.W.Frag → Bool)) (fn : List DefD) (xs : List XcD) (K : PySem.W.Frag) : Prop := obsM fs fn xs K = valM fn xs
def obsMG (n : Nat) (fs : List (PySem.W.Frag → Bool)) (fn : List DefD) (xs : List XcD) (g : Addr → Option Obj) : AlM := obsM fs fn xs (frG g (reach g n [cStatics] [mainGlobals]))
def hookM (n : Nat) (fs : List (PySem.W.Frag → Bool)) (fn : List DefD) (xs : List XcD) : PySem.W.Hook where
  α := AlM
  obs := fun s => obsMG n fs fn xs s.heap.get?
  val := fun _ => valM fn xs
  says := fun _ h => ∃ K : PySem.W.Frag, K.In h ∧ SaysM fs fn xs K
  of := fun _ _ e => ⟨_, frG_in, e⟩
  keeps := fun _ _ _ ⟨K, hK, c⟩ k => ⟨K, PySem.W.Frag.In.keeps hK k, c⟩
theorem obsMG_eq {n : Nat} {fs : List (PySem.W.Frag → Bool)} {fn : List DefD} {xs : List XcD} {g : Addr → Option Obj} {s : Shared} (h : ∀ a, g a = s.heap.get? a) : obsMG n fs fn xs g = (hookM n fs fn xs).obs s := by
  have e : g = s.heap.get? := funext h
  rw [e] <;> rfl
section
variable {fs : List (PySem.W.Frag → Bool)} {fn : List DefD} {xs : List XcD} {K : PySem.W.Frag}
theorem SaysM.fact (c : SaysM fs fn xs K) (i : Nat) {f : PySem.W.Frag → Bool} (h : fs[i]? = some f := by rfl) : f K = true := by
  have c1 := (ba (show ((fs.all fun f => f K) && fn.all fun d => d.ok K) = true from congrArg (fun z : AlM => z.1) c)).1
  exact List.all_eq_true.mp c1 f (List.mem_of_getElem? h)
theorem SaysM.def_ (c : SaysM fs fn xs K) (i : Nat) {d : DefD} (h : fn[i]? = some d := by rfl) : ∃ fd, FunD K d.name d.qual d.params d.body d.scope (d.dvs K) (d.kws K) (fAd K d.at_) fd := by
  have c2 := (ba (show ((fs.all fun f => f K) && fn.all fun d => d.ok K) = true from congrArg (fun z : AlM => z.1) c)).2
  have e : fn.map (fun d => fnW K d.at_) = fn.map DefD.val := congrArg (fun z : AlM => z.2.1) c
  have e2 : (fn.map fun d => fnW K d.at_)[i]? = (fn.map DefD.val)[i]? := by rw [e]
  rw [List.getElem?_map, List.getElem?_map, h] at e2
  exact DefD.funD (Option.some.inj e2) (List.all_eq_true.mp c2 d (List.mem_of_getElem? h))
theorem SaysM.exc (c : SaysM fs fn xs K) (i : Nat) {d : XcD} (h : xs[i]? = some d := by rfl) : xcW K d.cls = d.val := by
  have e : xs.map (fun x => xcW K x.cls) = xs.map XcD.val := congrArg (fun z : AlM => z.2.2) c
  have e2 : (xs.map fun x => xcW K x.cls)[i]? = (xs.map XcD.val)[i]? := by rw [e]
  rw [List.getElem?_map, List.getElem?_map, h] at e2
  exact Option.some.inj e2
end
/-- a def without defaults by places -/
theorem fun_of {K : PySem.W.Frag} {x qual : Str} {st : Stmt} {kws : List (Str × V)} {f : Addr} {fd : FuncData} (F : FunD K x qual (defArgs st) (defBody st) (defScope st) [] kws f fd) : Fun K x qual st f fd := by
  obtain ⟨oc, od, dV, kV, doc, pm, an, cdv, ct, osl, e, lk, hcd, hD, _⟩ := F.ex
  rcases hD with ⟨_, rfl⟩ | ⟨n, _⟩
  · exact ⟨⟨oc, od, kV, doc, pm, an, cdv, ct, osl, e, lk, hcd⟩, F.kp⟩
  · exact absurd rfl n
def tup0B (K : PySem.W.Frag) (a : Addr) : Bool := match K.lookup a with
  | some ⟨.type c, _, .seq its _, _⟩ => decide (c = "tuple") && its.toList.isEmpty
  | _ => false
theorem tup0_ok {K : PySem.W.Frag} {a : Addr} (h : tup0B K a = true) (H : Hp) : Dp K H (.ref a) (.tuple []) := by
  unfold tup0B at h
  split at h
  · rename_i c dd its n sl hl
    obtain ⟨h1, h2⟩ := ba h
    have e := of_decide_eq_true h1
    have ei : its.toList = [] := List.isEmpty_iff.mp h2
    refine .tup (.inr ⟨_, its, n, hl, by rw [e], rfl, by rw [← Array.length_toList, ei]; exact Nat.zero_le _, by rw [ei]; exact .nil⟩) .nil
  · cases h
end Tc
/-! methods whose last names are left to their defaults, and that may let an exception out -/
namespace Tc
open PySem PySem.Spec PyProof.Rows L2 L2H
def MethXD (P : Program) (w : World) (K : PySem.W.Frag) (mg : Str → Option Value) (base : Heap) (C : Addr) (m : Str) (ps : List Str) (dvs : List V) (k : Nat) (sp : Sp) : Prop :=
  ∃ (f : Addr) (fd : FuncData) (ds : List Value), FnOk P w K mg base (L2N.CX P w) k f fd ps sp ∧ Vals dvs ds ∧ Binds K fd ps ds ∧ Meth K C m f
def tMethXD (C : Addr) (m : Str) (sp : Sp) (dvs : List V) (E : L2.St → XK) (ta : TE) (t : TA) : TE := fun σ H Q => ta σ H fun x H1 => ∃ a dx fs, x = .ref a ∧ H1 a = some (.ins C dx fs) ∧ fs.lookup m = none ∧ t σ H1 fun vs H2 => sp ((x :: vs) ++ dvs) H2 Q (E σ)
section
variable {X : Cx} {C : Addr} {m : Str} {ps : List Str} {dvs : List V} {k j : Nat} {sp : Sp} {W : WX} {o e : Expr} {es : List Expr} {ta : TE} {t : TA} {pos apos : Pos}
theorem pe_methXD {pl : Sem Bool} (d : MethXD X.prog X.w X.K X.mg X.base C m ps dvs k sp) (take : L2N.Takes X W) (hr : Room j X.A) (hj : k ≤ j) (c : Cls X.K C) (he : PE X o ta) (ha : PA X (e :: es) t)
    (hst : starEach (e :: es) X.env = (false, eval e X.env) :: starEach es X.env := by rfl)
    (hpl : (backTo pos (starEach es X.env)).any (·.1) = false := by rfl)
    (ht : eval (.Call (.Attribute o m apos) (e :: es) [] pos) X.env = (do
      let v0 ← eval o X.env
      standAt apos.atName
      let (g, g1) ← holding [v0] (getMethod v0 m pl)
      callWith pos g g1 (backTo pos (starEach (e :: es) X.env)) (backToKw pos (keywordEach [] X.env))) := by rfl) :
    PE X (.Call (.Attribute o m apos) (e :: es) [] pos) (tMethXD C m sp dvs (WE W) ta t) := by
  obtain ⟨f, fd, ds, F, hd, hb, hm⟩ := d
  refine ⟨fun pins s σ H Q I want => PySem.W.methodCall_KW (pl := pl) (thn (he.run pins s σ H _ I want) fun u s1 z1 => ?_) ht⟩
  obtain ⟨x, H1, I1, rx, a, dx, fs, rfl, ea, nl, go⟩ := z1
  obtain rfl : u = Value.ref a := rx
  refine getmeth_ok I1 ea c hm nl (PySem.W.callWith_K (first := [.ref a]) (h₀ := X.base) I.mod.kin hm.kp (thn (ha.run pos pins s1 σ H1 _ I1 go) fun us s2 z2 => ?_) hst hpl)
  obtain ⟨vs, H2, I2, r, fin⟩ := z2
  have rr : Vals (.ref a :: vs) (.ref a :: us) := .cons rfl r
  exact ⟨I2.kIn, run_fnSD F (hr.mono hj) hb hd (L2N.passAt take σ) I2 rr fin⟩
end
end Tc
namespace K18
open PySem L2 L2H PyProof.Rows Tc Evl
def flTr : List Bool := (List.range 26).map fun i => decide (i = 0 ∨ i = 22 ∨ i = 25)
theorem tr_text : Txt.join "" (kindsL flTr) = "asked Trimmed+" := by decide +kernel
theorem tr_field : fieldOf flTr = some "at" := by decide +kernel
theorem np_text : Txt.join "" (kindsL (rfF .noPlace)) = "asked NoPlace+" := rf_text .noPlace
theorem np_field : fieldOf (rfF .noPlace) = some "at" := rf_field .noPlace
theorem tif_of {t : TT} {ta tb : TE} {σ : L2.St} {H : Hp} {Q : VK} {b : Bool} (h : EvT t σ H b) (h1 : b = true → ∀ H1, Ex H H1 → ta σ H1 Q) (h2 : b = false → ∀ H1, Ex H H1 → tb σ H1 Q) : tIf t ta tb σ H Q := h H (Ex.refl H) _ fun H1 e => by
  cases b with
  | true => exact h1 rfl H1 e
  | false => exact h2 rfl H1 e
def spOfI : Sp := fun vs H Q _ => ∃ (b l : Addr) (ks : List Int), vs = [.ref b, .ref l] ∧ Bag H b ∧ H l = some (.lst (ks.map V.int)) ∧ l ≠ b ∧ 0 < ks.length ∧ ks.length ≤ 100000 ∧ ∀ k H', k ∈ ks → Tc.Fr b H H' → Q (.int k) H'
theorem hs_ob {K : PySem.W.Frag} {C R : Addr} {H : Hp} {p : Addr} {m : HM} {X : Addr → Prop} (S : HsM K C R H p m X) (nm : Str) (h : (nm == ("worths" : Str)) = false ∧ (nm == ("kept" : Str)) = false ∧ (nm == ("first_kept" : Str)) = false ∧ (nm == ("lives_given" : Str)) = false ∧ (nm == ("begun" : Str)) = false ∧ (nm == ("living" : Str)) = false ∧ (nm == ("running" : Str)) = false) : ∃ dx fs, H p = some (.ins C dx fs) ∧ fs.lookup nm = none := by
  obtain ⟨dW, dK, dL, dR, kvs, kept, l, B, fx⟩ := S
  obtain ⟨dx, hp⟩ := B.at'.ob
  exact ⟨dx, _, hp, hfl_no _ _ _ _ _ _ _ h⟩
theorem hs_liv {K : PySem.W.Frag} {C R : Addr} {H : Hp} {p : Addr} {m : HM} {X : Addr → Prop} (S : HsM K C R H p m X) : m.liv.length ≤ m.lg ∧ ∀ r ∈ m.liv, 1 ≤ r.1 ∧ r.1 ≤ m.lg := by
  obtain ⟨dW, dK, dL, dR, kvs, kept, l, B, fx⟩ := S
  exact ⟨liv_few B, B.lb⟩
theorem hs_run {K : PySem.W.Frag} {C R : Addr} {H : Hp} {p : Addr} {m : HM} {X : Addr → Prop} (S : HsM K C R H p m X) : m.run.length ≤ m.bg ∧ ∀ r ∈ m.run, 0 ≤ r.num ∧ r.num < m.bg := by
  obtain ⟨dW, dK, dL, dR, kvs, kept, l, B, fx⟩ := S
  refine ⟨?_, B.rb⟩
  rw [← B.rn, List.length_map]
  exact run_few B
theorem small_log {i : Int} (h : -2 ≤ i ∧ i ≤ 1000000) : i.natAbs.log2 < 1920 := by
  have : i.natAbs < 2 ^ 20 := by omega
  have := Nat.log2_lt (n := i.natAbs) (k := 1920)
  by_cases z : i.natAbs = 0
  · rw [z]; decide
  · exact (Nat.log2_lt z).mpr (Nat.lt_trans (by omega : i.natAbs < 2 ^ 20) (Nat.pow_lt_pow_right (by decide) (by decide)))
theorem mapV_getD {us : List V} {ds : List PyData} (hl : us.length = ds.length) (f : PyData → V) : given us.length (fun _ => true) (fun i => f (ds.getD i .none)) = ds.map f := by
  rw [given_all, hl]
  apply List.ext_getElem
  · simp
  · intro i h1 h2
    simp only [List.length_map] at h2
    simp [List.getD_eq_getElem?_getD, List.getElem?_eq_getElem h2]
/-- the first of each -/
theorem el_fst {K : PySem.W.Frag} {σ : L2.St} {H : Hp} {t : Addr} {us : List V} {ds : List PyData} {j : Nat} {vs : List Nat} (g : PyData → Int) (h : H t = some (.lst us)) (dd : DpAll K H us ds) (hd : ∀ d ∈ ds, ∃ rest, d = .tuple (.int (g d) :: rest)) (few : ds.length ≤ 40000) (hw : ∀ x, wipe ((wipe σ vs).set j (some x)) vs = wipe σ vs) (hj : ∀ x, ((wipe σ vs).set j (some x))[j]? = some (some x)) :
    EvL (tLc (iList K (tC (.ref t))) (gName j) tYes (tOp (rIxT K) (tVar j) (tC (.int 0))) vs) σ H ((ds.map g).map V.int) := by
  have hl := dps_len dd
  refine el_is (el_lcL (K := K) (fun _ => true) (fun i => V.int (g (ds.getD i .none))) ev_c (sq_of h) (by omega) hw (fun i x H1 e hx => et_yes) fun i x H2 e hx _ => ?_) ?_
  · have dx := dp_same e _ _ (dps_getD dd hx)
    have hi : i < ds.length := by
      have := (List.getElem?_eq_some_iff.mp hx).1
      omega
    have eg : ds.getD i .none = ds[i] := by
      rw [List.getD_eq_getElem?_getD, List.getElem?_eq_getElem hi]
      rfl
    obtain ⟨rest, er⟩ := hd _ (List.getElem_mem hi)
    rw [eg] at dx ⊢
    rw [er] at dx
    cases dx with
    | tup hs r =>
      cases r with
      | cons h0 r =>
        cases h0
        exact ev_ix0 (ev_var (hj _)) hs
  · rw [List.map_map]
    exact mapV_getD hl fun d => V.int (g d)
theorem ho_len (l : List (Int × Option Int)) : (hoD l).length ≤ l.length := by
  unfold hoD
  exact List.length_filterMap_le _ _
theorem lc_hos {K : PySem.W.Frag} {C R p : Addr} {H : Hp} {m : HM} {X : Addr → Prop} {σ : L2.St} {Q : VK} {E : L2.St → XK} {i j : Nat} {vs : List Nat} (hv : σ[i]? = some (some (.ref p))) (S : HsM K C R H p m X) (few : m.lg ≤ 10000) (hw : ∀ x, wipe ((wipe σ vs).set j (some x)) vs = wipe σ vs) (hj : ∀ x, ((wipe σ vs).set j (some x))[j]? = some (some x)) (q : ∀ L H', H L = none → Ex H H' → H' L = some (.lst (((hoD m.liv).map keyOf).map V.int)) → Q (.ref L) H') :
    tLc (iList K (tMethX C "holds" (spHos K C R) E (tVar i) tNil)) (gName j) tYes (tOp (rIxT K) (tVar j) (tC (.int 0))) vs σ H Q := by
  obtain ⟨dx, fs, hp, hno⟩ := hs_ob S "holds" (by decide +kernel)
  refine ⟨.ref p, hv, p, dx, fs, rfl, hp, hno, p, m, X, rfl, S, few, fun t us H1 nt x1 h1 d1 => ?_⟩
  have h2 := (hs_liv S).1
  have h3 := ho_len m.liv
  refine el_fst (σ := σ) (j := j) (vs := vs) keyOf h1 d1 (fun d md => ?_) (by omega) hw hj H1 (Ex.refl H1) Q fun L H2 nL x2 hL => q L H2 (fresh_back x1 nL) (x1.trans x2) hL
  obtain ⟨r, _, hr⟩ := List.mem_filterMap.mp md
  cases z : r.2 with
  | none => rw [z] at hr; cases hr
  | some y => rw [z] at hr; cases hr; exact ⟨[.int y], rfl⟩
theorem lc_rds {K : PySem.W.Frag} {C R p : Addr} {H : Hp} {m : HM} {X : Addr → Prop} {σ : L2.St} {Q : VK} {E : L2.St → XK} {i j : Nat} {vs : List Nat} (hv : σ[i]? = some (some (.ref p))) (S : HsM K C R H p m X) (few : m.bg ≤ 10000) (hw : ∀ x, wipe ((wipe σ vs).set j (some x)) vs = wipe σ vs) (hj : ∀ x, ((wipe σ vs).set j (some x))[j]? = some (some x)) (q : ∀ L H', H L = none → Ex H H' → H' L = some (.lst (((m.run.map rdD).map keyOf).map V.int)) → Q (.ref L) H') :
    tLc (iList K (tMethX C "readings" (spRds K C R) E (tVar i) tNil)) (gName j) tYes (tOp (rIxT K) (tVar j) (tC (.int 0))) vs σ H Q := by
  obtain ⟨dx, fs, hp, hno⟩ := hs_ob S "readings" (by decide +kernel)
  refine ⟨.ref p, hv, p, dx, fs, rfl, hp, hno, p, m, X, rfl, S, few, fun t us H1 nt x1 h1 d1 => ?_⟩
  have h2 := (hs_run S).1
  refine el_fst (σ := σ) (j := j) (vs := vs) keyOf h1 d1 (fun d md => ?_) (by rw [List.length_map]; omega) hw hj H1 (Ex.refl H1) Q fun L H2 nL x2 hL => q L H2 (fresh_back x1 nL) (x1.trans x2) hL
  obtain ⟨r, _, hr⟩ := List.mem_map.mp md
  subst hr
  exact ⟨_, rfl⟩
theorem sok_one {b : Addr} {H : Hp} (h : Bag H b) : Sok (fun a => a = b) b H := ⟨rfl, fun a m => by
  obtain ⟨x, y, hb, _⟩ := h
  rw [m, hb]
  exact fun z => nomatch z⟩
section
variable {P : Program} {w : World} {K : PySem.W.Frag} {mg : Str → Option Value} {base : Heap}
def spStr (K : PySem.W.Frag) : Sp := fun vs H Q _ => ∃ (b l : Addr) (ks : List Int), vs = [.ref b, .ref l] ∧ Bag H b ∧ KeysAt b H l ks ∧ ∀ (x y : Int) (p : Addr) (H' : Hp), Tc.Fr b H H' → H p = none → p ≠ b → H' p = some (.tup [.int x, .int y]) → 0 ≤ x → x < 1000 → x < y → y ≤ 1000 → Q (.ref p) H'
abbrev sStr : Stmt := topS 68
theorem scStr : FnScope ["bag", "keys", "first", "wide"] ["bag", "keys"] (defScope sStr) := ⟨rfl, rfl, rfl, by decide +kernel, rfl, by decide +kernel, by decide +kernel⟩
theorem ok_str {f : Addr} {fd : FuncData} {kT kO k : Nat} (F : Fun K "_law_stretch" "_law_stretch" sStr f fd) (N : Names mg) (dT : Own P w K mg base "_law_take" ["bag", "man1"] kT spTake) (hT : kT ≤ k) (dOf : Own P w K mg base "_law_of" ["bag", "some"] kO spOf) (hO : kO ≤ k) : FnOk P w K mg base CX0 (k + 1) f fd ["bag", "keys"] (spStr K) := by
  refine F.ok scStr (fun vs H Q E h => ?_) (fun cdv A outer s H vs Q E hr h => ?_)
  · obtain ⟨b, l, ks, rfl, _⟩ := h
    rfl
  · obtain ⟨b, l, ks, rfl, hB, hk, q⟩ := h
    refine ⟨_, (pss_cons (ps_set (i := 2) scStr.nd rfl (.inl rfl) (pe_ix ix_list (pe_lst (pa_cons (pe_own dOf hr hO (by rfl) (pa_cons (pv 0) (pa_cons (pv 1) pa_nil))) (pa_cons pe_int (pa_cons (pe_own dT hr hT (by rfl) (pa_cons (pv 0) (pa_cons pe_int pa_nil))) pa_nil)))) (pe_own dT hr hT (by rfl) (pa_cons (pv 0) (pa_cons pe_int pa_nil))) (fun _ _ => rfl)))
      (pss_cons (ps_set (i := 3) scStr.nd rfl (.inl rfl) (pe_ix ix_list (pe_lst (pa_cons pe_int (pa_cons (pe_op op_add pe_int (pe_own dT hr hT (by rfl) (pa_cons (pv 0) (pa_cons pe_int pa_nil)))) (pa_cons pe_int pa_nil)))) (pe_own dT hr hT (by rfl) (pa_cons (pv 0) (pa_cons pe_int pa_nil))) (fun _ _ => rfl)))
      (pss_one (ps_ret (pe_tup (pa_cons (pv 2) (pa_cons (pe_callB (call_min2 rfl) (by rfl) N.min boot_min (pa_cons pe_int (pa_cons (pe_op op_add (pv 2) (pv 3)) pa_nil))) pa_nil))))))), ?_⟩
    refine s_seq ⟨.ref b, rfl, .ref l, rfl, b, l, ks, rfl, hB, hk, fun kk H1 mk f1 => take_of (b := b) (m := 1000) f1.bag (ea_cons (ev_var rfl) (ea_cons ev_c ea_nil)) (by decide) (by decide) fun r1 H2 f2 a1 a2 => ⟨sz_of (by simp), fun L hL => ?_⟩⟩
    have fL := Fr.new (o := .lst [.int kk, .int 0, .int r1]) f2.bag hL
    refine take_of (b := b) (m := 3) fL.bag (ea_cons (ev_var rfl) (ea_cons ev_c ea_nil)) (by decide) (by decide) fun r2 H3 f3 a3 a4 => ?_
    have hL3 : H3 L = some (.lst [.int kk, .int 0, .int r1]) := f3.at upd_same (f2.bag.ne hL)
    have hkb := hk.bd kk mk
    obtain ⟨n, rfl⟩ : ∃ n : Nat, r2 = (n : Int) := ⟨r2.toNat, by omega⟩
    obtain ⟨x, hx, hxb⟩ : ∃ x : Int, [V.int kk, .int 0, .int r1][n]? = some (.int x) ∧ (0 ≤ x ∧ x < 1000) := by
      have : n = 0 ∨ n = 1 ∨ n = 2 := by omega
      rcases this with rfl | rfl | rfl
      · exact ⟨kk, rfl, hkb⟩
      · exact ⟨0, rfl, by decide⟩
      · exact ⟨r1, rfl, a1, a2⟩
    refine ⟨L, _, n, .int x, rfl, rfl, sq_of hL3, atI_nat hx, g_name ?_⟩
    dsimp only
    have fA := ((f1.trans f2).trans fL).trans f3
    refine s_seq (take_of (b := b) (m := 30) f3.bag (ea_cons (ev_var rfl) (ea_cons ev_c ea_nil)) (by decide) (by decide) fun r3 H4 f4 a5 a6 => ⟨1, r3, rfl, rfl, sz_of (by simp), fun L2 hL2 => ?_⟩)
    have fL2 := Fr.new (o := .lst [.int 1, .int (1 + r3), .int 1000]) f4.bag hL2
    refine take_of (b := b) (m := 3) fL2.bag (ea_cons (ev_var rfl) (ea_cons ev_c ea_nil)) (by decide) (by decide) fun r4 H5 f5 a7 a8 => ?_
    have hL5 : H5 L2 = some (.lst [.int 1, .int (1 + r3), .int 1000]) := f5.at upd_same (f4.bag.ne hL2)
    obtain ⟨n2, rfl⟩ : ∃ n : Nat, r4 = (n : Int) := ⟨r4.toNat, by omega⟩
    obtain ⟨y, hy, hyb⟩ : ∃ y : Int, [V.int 1, .int (1 + r3), .int 1000][n2]? = some (.int y) ∧ (1 ≤ y ∧ y ≤ 1000) := by
      have : n2 = 0 ∨ n2 = 1 ∨ n2 = 2 := by omega
      rcases this with rfl | rfl | rfl
      · exact ⟨1, rfl, by decide⟩
      · exact ⟨1 + r3, rfl, by omega, by omega⟩
      · exact ⟨1000, rfl, by decide⟩
    refine ⟨L2, _, n2, .int y, rfl, rfl, sq_of hL5, atI_nat hy, g_name ?_⟩
    dsimp only
    have fB := ((fA.trans f4).trans fL2).trans f5
    refine ⟨.int x, rfl, .int x, rfl, .int y, rfl, x, y, rfl, rfl, 1000, x + y, rfl, sz_of (by simp), fun p hp => ?_⟩
    have hp0 : H p = none := fr_back' fB hp
    refine q x _ p _ (fB.trans (Fr.new fB.bag hp)) hp0 (fB.bag.ne hp) upd_same hxb.1 hxb.2 ?_ ?_
    · split <;> omega
    · split <;> omega
theorem ok_ofI {f : Addr} {fd : FuncData} {kT k : Nat} (F : Fun K "_law_of" "_law_of" sOf f fd) (N : Names mg) (dT : Own P w K mg base "_law_take" ["bag", "man1"] kT spTake) (hT : kT ≤ k) : FnOk P w K mg base CX0 (k + 1) f fd ["bag", "some"] spOfI := by
  refine F.ok scOf (fun vs H Q E h => ?_) (fun cdv A outer s H vs Q E hr h => ?_)
  · obtain ⟨b, l, ks, rfl, _⟩ := h
    rfl
  · obtain ⟨b, l, ks, rfl, hB, hl, ne, n0, n1, q⟩ := h
    refine ⟨_, (pss_one (ps_ret (pe_ix ix_list (pv 1) (pe_own dT hr hT (by rfl) (pa_cons (pv 0) (pa_cons (pe_callB call_len_seq (by rfl) N.len PySem.boot_len (pa_cons (pv 1) pa_nil)) pa_nil))) (fun _ _ => rfl)))), ?_⟩
    refine ⟨.ref l, rfl, take_of (b := b) (m := (ks.length : Int)) hB (ea_cons (ev_var rfl) (ea_cons (ev_is (ev_len (ev_var rfl) (sq_of hl)) (by rw [List.length_map])) ea_nil)) (by omega) (by omega) fun r H1 f1 r0 r1 => ?_⟩
    obtain ⟨n, rfl⟩ : ∃ n : Nat, r = (n : Int) := ⟨r.toNat, by omega⟩
    have hn : n < ks.length := by omega
    exact ⟨l, ks.map V.int, n, .int ks[n], rfl, rfl, sq_of (f1.at hl ne), atI_nat (by rw [List.getElem?_map, List.getElem?_eq_getElem hn]; rfl), q _ _ (List.getElem_mem hn) f1⟩
end
end K18
/-! a comprehension that makes data of data -/
namespace Tc
open PySem L2 Evl
theorem kt_put {D : Addr} {H : Hp} {acc ws : List V} (h : H D = some (.lst acc)) : Kt H (upd H D (.lst ws)) :=
  Kt.but (fun a => a = D) (fun a e => by
    subst e
    exact ⟨_, h, (fun xs z => by cases z), fun o xs z => by cases z⟩) fun a o n k => by
    rw [upd_ne n]
    exact k
theorem lc_data {K : PySem.W.Frag} {σ : L2.St} {H : Hp} {a : Addr} {us : List V} {ds : List PyData} {j k : Nat} {vs : List Nat} {t : TT} {te : TE} {Q : VK} (g : PyData → Bool) (h : PyData → PyData) (hL : H a = some (.lst us)) (dd : DpAll K H us ds) (few : us.length ≤ 40000)
    (hw : ∀ x, wipe ((wipe σ vs).set j (some x)) vs = wipe σ vs)
    (ht : ∀ (d : PyData) (x : V) H1, d ∈ ds → Ex H H1 → Dp K H1 x d → EvT t ((wipe σ vs).set j (some x)) H1 (g d))
    (he : ∀ (d : PyData) (x : V) H1, d ∈ ds → Ex H H1 → Dp K H1 x d → g d = true → ∀ Q : VK, (∀ y H2, Ex H1 H2 → Dp K H2 y (h d) → Q y H2) → te ((wipe σ vs).set j (some x)) H1 Q)
    (nlh : ∀ d ∈ ds, nl k (h d) = true)
    (q : ∀ L ws H', H L = none → Ex H H' → H' L = some (.lst ws) → DpAll K H' ws ((ds.filter g).map h) → Q (.ref L) H') :
    tLc (iList K (tC (.ref a))) (gName j) t te vs σ H Q := by
  refine ⟨a, rfl, ⟨us, sq_of hL⟩, fun D hD => lc_list (xs := us) (fun i H' => Ex H H' ∧ ∃ acc, H' D = some (.lst acc) ∧ acc.length ≤ i ∧ DpAll K H' acc (((ds.take i).filter g).map h)) ⟨Ex.new hD, [], upd_same, Nat.le_refl _, .nil⟩ (fun i H' _ p => sq_of (p.1 _ _ hL)) (fun i x H' hi p => ?_) (fun H' p => ?_)⟩
  · obtain ⟨xH, acc, hacc, la, dacc⟩ := p
    obtain ⟨d, hd, hx⟩ := dps_at dd hi
    have md : d ∈ ds := List.mem_of_getElem? hd
    have hi40 : i < 40000 := by have := (List.getElem?_eq_some_iff.mp hi).1; omega
    have tk : ds.take (i + 1) = ds.take i ++ [d] := by
      rw [List.take_succ, hd]
      rfl
    refine ⟨hw x, ?_⟩
    refine ht d x H' md xH (dp_same xH _ _ hx) H' (Ex.refl H') _ fun H3 x3 => ?_
    cases e : g d with
    | true =>
      rw [if_pos rfl]
      refine he d x H3 md (xH.trans x3) (dp_same (xH.trans x3) _ _ hx) e _ fun y H4 x4 dy => ⟨acc, x4 _ _ (x3 _ _ hacc), sz_lt (by omega), ?_, acc ++ [y], upd_same, by rw [List.length_append]; simp only [List.length_cons, List.length_nil]; omega, ?_⟩
      · intro b o hb
        rw [upd_ne (ne_of_none hb hD)]
        exact x4 _ _ (x3 _ _ (xH _ _ hb))
      · rw [tk, List.filter_append, List.filter_cons_of_pos e, List.filter_nil, List.map_append]
        refine (kt_put (x4 _ _ (x3 _ _ hacc))).dps (n := k) (fun u mu => ?_) (dps_app (dps_same (x3.trans x4) _ _ dacc) (.cons dy .nil))
        rcases List.mem_append.mp mu with mu | mu
        · obtain ⟨u', mu', rfl⟩ := List.mem_map.mp mu
          exact nlh u' (List.mem_of_mem_take ((List.mem_filter.mp mu').1))
        · rw [List.mem_singleton.mp mu]
          exact nlh d md
    | false =>
      rw [if_neg Bool.false_ne_true]
      refine ⟨xH.trans x3, acc, x3 _ _ hacc, Nat.le_succ_of_le la, ?_⟩
      rw [tk, List.filter_append, List.filter_cons_of_neg (by rw [e]; exact Bool.false_ne_true), List.filter_nil, List.append_nil]
      exact dps_same x3 _ _ dacc
  · obtain ⟨xH, acc, hacc, la, dacc⟩ := p
    rw [dps_len dd, List.take_length] at dacc
    exact q D acc H' hD xH hacc dacc
/-- .. over a list that is told -/
theorem lc_dataE {K : PySem.W.Frag} {σ : L2.St} {H : Hp} {tl : TE} {ds : List PyData} {j k : Nat} {vs : List Nat} {t : TT} {te : TE} {Q : VK} (g : PyData → Bool) (h : PyData → PyData)
    (hl : ∀ Q' : VK, (∀ a us H1, Ex H H1 → H1 a = some (.lst us) → DpAll K H1 us ds → Q' (.ref a) H1) → tl σ H Q') (few : ds.length ≤ 40000)
    (hw : ∀ x, wipe ((wipe σ vs).set j (some x)) vs = wipe σ vs)
    (ht : ∀ (d : PyData) (x : V) H1, d ∈ ds → Ex H H1 → Dp K H1 x d → EvT t ((wipe σ vs).set j (some x)) H1 (g d))
    (he : ∀ (d : PyData) (x : V) H1, d ∈ ds → Ex H H1 → Dp K H1 x d → g d = true → ∀ Q : VK, (∀ y H2, Ex H1 H2 → Dp K H2 y (h d) → Q y H2) → te ((wipe σ vs).set j (some x)) H1 Q)
    (nlh : ∀ d ∈ ds, nl k (h d) = true)
    (q : ∀ L ws H', H L = none → Ex H H' → H' L = some (.lst ws) → DpAll K H' ws ((ds.filter g).map h) → Q (.ref L) H') :
    tLc (iList K tl) (gName j) t te vs σ H Q := hl _ fun a us H1 x1 h1 d1 =>
  lc_data (K := K) (σ := σ) (H := H1) (a := a) (us := us) (ds := ds) (j := j) (k := k) (vs := vs) (t := t) (te := te) (Q := Q) g h h1 d1 (by rw [dps_len d1]; exact few) hw (fun d x H2 m x2 => ht d x H2 m (x1.trans x2)) (fun d x H2 m x2 => he d x H2 m (x1.trans x2)) nlh fun L ws H' nL x' hL dL => q L ws H' (fresh_back x1 nL) (x1.trans x') hL dL
end Tc
namespace K18
open PySem L2 PyProof.Rows Tc Evl
/-- the rows behind so many entries -/
def spRowsAtM (K : PySem.W.Frag) : Sp := fun vs H Q _ => ∃ (v : V) (rs : List (Int × Int)) (l : Addr) (ks : List Int) (ds : List PyData) (n : Nat), vs = [v, .ref l, .int (n : Int)] ∧ Dp K H v (rowsD rs) ∧ (∀ r ∈ rs, r.1 ∈ ks) ∧ ks.length ≤ 1000 ∧ LogAt K H l ks ds ∧ n ≤ ds.length ∧
  ∀ D kvs H', H D = none → Ex H H' → H' D = some (.dK kvs) → DI ks kvs (appl (fRows rs) (lgD (ds.take n))) → Q (.ref D) H'
/-- what looks at these moments find, T the worths at each place -/
def looks (T : Nat → Int → Option Int) (b : Int) : Int → List Nat → Option (List (Int × Int))
  | _, [] => none
  | a, m :: ms => match leastF (T m) a b with
    | none => if ms.isEmpty then some [] else none
    | some r => (looks T b (r.1 + 1) ms).map (r :: ·)
/-- the worths behind so many entries -/
def worthsAt (rs : List (Int × Int)) (ds : List PyData) (n : Nat) : Int → Option Int := appl (fRows rs) (lgD (ds.take n))
theorem looks_end {T : Nat → Int → Option Int} {b a : Int} {m : Nat} {ms : List Nat} (h : leastF (T m) a b = none) : looks T b a (m :: ms) = if ms.isEmpty then some [] else none := by
  show (match leastF (T m) a b with | none => _ | some r => _) = _
  rw [h]
theorem looks_on {T : Nat → Int → Option Int} {b a : Int} {m : Nat} {ms : List Nat} {r : Int × Int} (h : leastF (T m) a b = some r) : looks T b a (m :: ms) = (looks T b (r.1 + 1) ms).map (r :: ·) := by
  show (match leastF (T m) a b with | none => _ | some r => _) = _
  rw [h]
theorem least_bd {f : Int → Option Int} : ∀ (n : Nat) (a k z : Int), least f n a = some (k, z) → a ≤ k ∧ k < a + (n : Int)
  | 0, _, _, _, h => by cases h
  | n + 1, a, k, z, h => by
    unfold least at h
    cases hf : f a with
    | some y =>
      rw [hf] at h
      have := congrArg Prod.fst (Option.some.inj h)
      dsimp only at this
      omega
    | none =>
      rw [hf] at h
      have := least_bd n (a + 1) k z h
      omega
theorem worths_on (rs : List (Int × Int)) (ds : List PyData) {p m : Nat} (h : p ≤ m) : appl (worthsAt rs ds p) (lgD ((ds.drop p).take (m - p))) = worthsAt rs ds m := by
  unfold worthsAt
  rw [← appl_app, ← lgD_app]
  have e : ds.take p ++ (ds.drop p).take (m - p) = ds.take m := by
    have := List.take_add (l := ds) (i := p) (j := m - p)
    rw [Nat.add_sub_cancel' h] at this
    exact this.symm
  rw [e]
/-- changes done in a dict -/
def spDone (K : PySem.W.Frag) : Sp := fun vs H Q _ => ∃ (D q : Addr) (ks : List Int) (kvs : List (Key × V)) (f : Int → Option Int) (us : List V) (cs : List PyData), vs = [.ref D, .ref q] ∧ H D = some (.dK kvs) ∧ DI ks kvs f ∧ ks.length ≤ 1000 ∧ SqT K H q us ∧ DpAll K H us cs ∧ (∀ c ∈ cs, goodCh ks c = true) ∧
  ∀ kvs' H', Bar D H H' → H' D = some (.dK kvs') → DI ks kvs' (appl f (cs.map chD)) → Q .non H'
/-- the rows of a dict, by keys -/
def spPairs (K : PySem.W.Frag) : Sp := fun vs H Q _ => ∃ (D : Addr) (ks : List Int) (kvs : List (Key × V)) (f : Int → Option Int), vs = [.ref D] ∧ H D = some (.dK kvs) ∧ DI ks kvs f ∧ ks.length ≤ 1000 ∧
  ∀ p js H', H p = none → Ex H H' → KeysOf f js → (∀ j ∈ js, j ∈ ks) → TP K H' p (rowsOf f js) → Q (.ref p) H'
def gpD (d : PyData) : PyData := .tuple (chsD d)
def spGroups (K : PySem.W.Frag) : Sp := fun vs H Q _ => ∃ (l : Addr) (ks : List Int) (ds : List PyData), vs = [.ref l] ∧ LogAt K H l ks ds ∧ ds.length ≤ 10000 ∧ ∀ p us H', H p = none → Ex H H' → H' p = some (.lst us) → DpAll K H' us (ds.map gpD) → Q (.ref p) H'
def spAt (K : PySem.W.Frag) : Sp := fun vs H Q _ => ∃ (pt l : Addr) (rs : List (Int × Int)) (ks : List Int) (ds : List PyData) (n : Nat), vs = [.ref pt, .ref l, .int (n : Int)] ∧ TP K H pt rs ∧ (∀ r ∈ rs, r.1 ∈ ks) ∧ ks.length ≤ 1000 ∧ LogAt K H l ks ds ∧ ds.length ≤ 10000 ∧ n ≤ ds.length ∧
  ∀ p js H', H p = none → Ex H H' → KeysOf (worthsAt rs ds n) js → (∀ j ∈ js, j ∈ ks) → TP K H' p (rowsOf (worthsAt rs ds n) js) → Q (.ref p) H'
theorem to_hid {D : Addr} {H H' : Hp} (x : Ex H H') (hD : H D = none) : Same H (hid D H') := fun a o h => hid_at (x a o h) fun z => by
  rw [z, hD] at h
  cases h
theorem cut_none (us : List V) (n : Nat) (h : n ≤ us.length) : cutV us none (some (n : Int)) = us.take n := by
  have e : HT.sIx us.length us.length (some (n : Int)) = n := by
    unfold HT.sIx
    show (if (n : Int) < 0 then _ else min (n : Int).toNat us.length) = n
    rw [if_neg (by omega)]
    omega
  have e0 : HT.sIx us.length 0 none = 0 := rfl
  unfold cutV
  rw [e, e0, List.drop_zero, Nat.sub_zero]
theorem dict_di {K : PySem.W.Frag} {H : Hp} {p : Addr} {rs : List (Int × Int)} {ks : List Int} {Q : VK} (h : TP K H p rs) (hk : ∀ r ∈ rs, r.1 ∈ ks) (q : ∀ D kvs, H D = none → DI ks kvs (fRows rs) → Q (.ref D) (upd H D (.dK kvs))) : rDictT K [.ref p] H Q := by
  obtain ⟨xs, hp, hA⟩ := h
  obtain ⟨ps, rfl, hP⟩ := pairs_dp hA
  exact ⟨p, ps, _, rfl, hp, hP, fun D hD => q D _ hD (merge_rows rs [] (fun _ => none) hk DI.nil)⟩
section
variable {P : Program} {w : World} {K : PySem.W.Frag} {mg : Str → Option Value} {base : Heap}
abbrev sRo : Stmt := topS 44
theorem scRo : FnScope ["table", "log", "place", "rows", "key", "worth"] ["table", "log", "place"] (defScope sRo) := ⟨rfl, rfl, rfl, by decide +kernel, rfl, by decide +kernel, by decide +kernel⟩
theorem ok_rowsAt {f : Addr} {fd : FuncData} {kC k : Nat} (F : Fun K "rows_at" "rows_at" sRo f fd) (N : Names mg) (dC : Own P w K mg base "carry" ["rows", "log", "low", "high"] kC (spCarryM K)) (hC : kC ≤ k) : FnOk P w K mg base CX0 (k + 1) f fd ["table", "log", "place"] (spRowsAtM K) := by
  refine F.ok scRo (fun vs H Q E h => ?_) (fun cdv A outer s H vs Q E hr h => ?_)
  · obtain ⟨v, rs, l, ks, ds, n, rfl, _⟩ := h
    rfl
  · obtain ⟨v, rs, l, ks, ds, n, rfl, hd, hk, h64, hl, hn, q⟩ := h
    refine ⟨_, (pss_cons (ps_setDc (i := 3) (own := [("key", 4), ("worth", 5)]) (g := gTup K 2 (gCons (gName 4) (gCons (gName 5) gNil))) (tt := tYes) (tk := tVar 4) (tv := tVar 5) rfl scRo.nd rfl rfl (sw_trueD rfl rfl rfl (by decide +kernel)) (pi_tup (pv 0)) (blkOk_by (N := ["table", "log", "place", "rows", "key", "worth"]) (sc := defScope sRo) (by decide +kernel)) (fun _ _ _ _ _ => ⟨pg_tup rfl (pgs_cons (pg_name (i := 4) scRo.nd rfl (Or.inl rfl)) (pgs_cons (pg_name (i := 5) scRo.nd rfl (Or.inl rfl)) pgs_nil)), pts_nil, pv 4, pv 5⟩))
      (pss_cons (ps_expr (pe_own dC hr hC (by rfl) (pa_cons (pv 3) (pa_cons (pv 1) (pa_cons pe_int (pa_cons (pv 2) pa_nil))))))
      (pss_one (ps_ret (pv 3))))), ?_⟩
    obtain ⟨a, xs, rfl, hs, hA⟩ : ∃ a xs, v = .ref a ∧ SqT K H a xs ∧ DpAll K H xs (rs.map Tc.pairD) := by
      cases hd with
      | tup hs hA => exact ⟨_, _, rfl, hs, hA⟩
    have hlen : xs.length = rs.length := by rw [dps_len hA, List.length_map]
    refine s_seq ⟨.ref a, rfl, a, rfl, ⟨xs, hs⟩, fun D hD => ?_⟩
    have x0 : Ex H (upd H D (.dK [])) := Ex.new hD
    refine dc_tup (K := K) (xs := xs) (fun i H' => ∃ kvs, Bar D (upd H D (.dK [])) H' ∧ H' D = some (.dK kvs) ∧ DI ks kvs (fRows (rs.take i))) ⟨[], Bar.refl D _, upd_same, DI.nil⟩ (fun i H' _ h => ?_) (fun i x H' hx h => ?_) (fun H' h => ?_)
    · obtain ⟨kvs, b, _, _⟩ := h
      exact bar_t (kvs := []) upd_same b (Evl.ex_t x0 hs)
    · obtain ⟨kvs, b, hD', di⟩ := h
      obtain ⟨d, hd, hxd⟩ := dps_at (dps_bar (kvs := []) upd_same b _ _ (dps_same x0 _ _ hA)) hx
      rw [List.getElem?_map] at hd
      obtain ⟨r, hr', rfl⟩ := Option.map_eq_some_iff.mp hd
      obtain ⟨pa, u0, u1, rfl, ht, h0, h1⟩ := dpt2 hxd
      cases h0
      cases h1
      refine ⟨pa, _, rfl, ht, rfl, _, _, rfl, _, _, rfl, rfl, rfl, ?_⟩
      refine iteT (B := ∃ kvs, Bar D (upd H D (.dK [])) H' ∧ H' D = some (.dK kvs) ∧ DI ks kvs (fRows (rs.take (i + 1)))) ⟨_, rfl, _, rfl, kvs, .inl r.1, rfl, hD', sz_lt (by have := di.len; omega), putK kvs (.inl r.1) (.int r.2), b.put, upd_same, ?_⟩
      rw [take_rows rs hr']
      unfold fRows
      rw [List.map_append, appl_app]
      exact di.put (hk r (List.mem_of_getElem? hr'))
    · obtain ⟨kvs, b, hD', di⟩ := h
      rw [hlen, List.take_length] at di
      have xH : Ex H H' := b.exOf x0 hD
      refine g_name ?_
      dsimp only
      refine s_seq ⟨.ref D, rfl, .ref l, rfl, .int (n : Int), rfl, D, l, ks, kvs, fRows rs, ds, 0, n, rfl, hD', di, h64, hl.same xH, Nat.zero_le _, fun kvs' H2 b2 hD2 di2 => ?_⟩
      rw [List.drop_zero, Nat.sub_zero] at di2
      exact ⟨.ref D, rfl, q D kvs' H2 hD (b2.exOf xH hD) hD2 di2⟩
abbrev sDone : Stmt := topS 64
theorem scDone : FnScope ["rows", "changes", "change"] ["rows", "changes"] (defScope sDone) := ⟨rfl, rfl, rfl, by decide +kernel, rfl, by decide +kernel, by decide +kernel⟩
theorem ok_done {f : Addr} {fd : FuncData} {k : Nat} (F : Fun K "_law_done" "_law_done" sDone f fd) : FnOk P w K mg base CX0 (k + 1) f fd ["rows", "changes"] (spDone K) := by
  refine F.ok scDone (fun vs H Q E h => ?_) (fun cdv A outer s H vs Q E hr h => ?_)
  · obtain ⟨D, q, ks, kvs, f, us, cs, rfl, _⟩ := h
    rfl
  · obtain ⟨D, qa, ks, kvs, f, us, cs, rfl, hD, di, h64, hq, hA, hg, q⟩ := h
    refine ⟨_, pss_one (ps_for PassesOwn.never rfl (pi_tup (pv 1)) (pg_name (i := 2) scDone.nd rfl (.inl rfl)) (pss_one (ps_if (pt_cmpR op_eq (pe_ix ix_tup (pv 2) pe_int (fun _ _ => rfl)) pe_str (nomark _)) (pss_one (ps_dput (hu_of hr) (pv 0) (pe_ix ix_tup (pv 2) pe_int (fun _ _ => rfl)) (pe_ix ix_tup (pv 2) pe_int (fun _ _ => rfl)) rfl)) (pss_one (ps_expr (pe_dpop2 (pv 0) (pe_ix ix_tup (pv 2) pe_int (fun _ _ => rfl)) pe_non ⟨rfl, rfl, rfl, rfl⟩)))))), ?_⟩
    refine ⟨.ref qa, rfl, qa, rfl, ⟨us, hq⟩, ?_⟩
    refine for_tup (K := K) (a := qa) (xs := us) (fun j σ2 H2 => ∃ y2 kvs2, σ2 = [some (.ref D), some (.ref qa), y2] ∧ Bar D H H2 ∧ H2 D = some (.dK kvs2) ∧ DI ks kvs2 (appl f ((cs.map chD).take j))) ⟨none, kvs, rfl, Bar.refl D H, hD, di⟩ ?_ ?_ ?_
    · rintro j σ2 H2 _ ⟨_, _, _, b2, _⟩
      exact bar_t hD b2 hq
    · rintro j y σ2 H2 hy ⟨y2, kvs2, rfl, b2, hD2, di2⟩
      obtain ⟨c, hc, hyc⟩ := dps_at (dps_bar hD b2 _ _ hA) hy
      have hj : (cs.map chD).take (j + 1) = (cs.map chD).take j ++ [chD c] := by
        rw [List.take_succ, List.getElem?_map, hc]
        rfl
      rw [hj, appl_app]
      have hz : kvs2.length < sizeLine := sz_lt (by have := di2.len; omega)
      rcases ch_kind (hg c (List.mem_of_getElem? hc)) with ⟨kk, rfl, mk⟩ | ⟨kk, zz, rfl, mk⟩
      · obtain ⟨pa, u0, u1, rfl, ht, h0, h1⟩ := dpt2 hyc
        cases h0
        cases h1
        refine g_name (s_if (b := false) (et_is (et_test (ev_op (ev_ix0 (ev_var rfl) ht) ev_c (rv_eq rfl))) (by decide)) (fun e => by cases e) fun _ H4 x4 => ?_)
        have hD4 := x4 D _ hD2
        refine ⟨.ref D, rfl, D, rfl, .inl ⟨kvs2, .inl hD4⟩, ev_ix1 (ev_var rfl) (Evl.ex_t x4 ht) H4 (Ex.refl H4) _ fun H5 x5 => ⟨kvs2, .inl kk, x5 D _ hD4, rfl, fun v hv => ⟨_, _, rfl, (b2.trans (Bar.ex (x4.trans x5))).put, upd_same, di2.drop⟩, fun hv => ⟨_, _, rfl, b2.trans (Bar.ex (x4.trans x5)), x5 D _ hD4, di2.gone ?_⟩⟩⟩
        rw [di2.val] at hv
        exact Option.map_eq_none_iff.mp hv
      · obtain ⟨pa, u0, u1, u2, rfl, ht, h0, h1, h2⟩ := dpt3 hyc
        cases h0
        cases h1
        cases h2
        refine g_name (s_if (b := true) (et_is (et_test (ev_op (ev_ix0 (ev_var rfl) ht) ev_c (rv_eq rfl))) (by decide)) (fun _ H4 x4 => ?_) fun e => by cases e)
        have hD4 := x4 D _ hD2
        refine ev_ix2 (ev_var rfl) (Evl.ex_t x4 ht) H4 (Ex.refl H4) _ fun H5 x5 => ⟨.ref D, rfl, ev_ix1 (ev_var rfl) (Evl.ex_t (x4.trans x5) ht) H5 (Ex.refl H5) _ fun H6 x6 => ⟨D, _, rfl, DPut.k (k := .inl kk) (x6 D _ (x5 D _ hD4)) hz, ?_⟩⟩
        exact ⟨_, _, rfl, (b2.trans (Bar.ex ((x4.trans x5).trans x6))).put, upd_same, di2.put mk⟩
    · rintro σ2 H2 ⟨y2, kvs2, rfl, b2, hD2, di2⟩
      rw [dps_len hA, ← List.length_map (f := chD), List.take_length] at di2
      exact q kvs2 H2 b2 hD2 di2
abbrev sPairs : Stmt := topS 65
theorem scPairs : FnScope ["rows", "key"] ["rows"] (defScope sPairs) := ⟨rfl, rfl, rfl, by decide +kernel, rfl, by decide +kernel, by decide +kernel⟩
theorem ok_pairs {f : Addr} {fd : FuncData} {k : Nat} (F : Fun K "_law_pairs" "_law_pairs" sPairs f fd) (N : Names mg) : FnOk P w K mg base CX0 (k + 1) f fd ["rows"] (spPairs K) := by
  refine F.ok scPairs (fun vs H Q E h => ?_) (fun cdv A outer s H vs Q E hr h => ?_)
  · obtain ⟨D, ks, kvs, f, rfl, _⟩ := h
    rfl
  · obtain ⟨D, ks, kvs, f, rfl, hD2, di, h64, q⟩ := h
    refine ⟨_, pss_one (ps_ret (pe_callTy cr_tupP (by rfl) N.tuple boot_tuple (pa_cons (pe_lc (own := [("key", 1)]) (g := gName 1) (tt := tYes) (te := tTup (tCons (tVar 1) (tCons (tDGet (tVar 0) (tVar 1)) tNil))) rfl scPairs.nd (pi_list (pe_callB (cr_sortedDA rfl) (by rfl) N.sorted boot_sorted (pa_cons (pv 0) pa_nil))) (blkOk_by (N := ["rows", "key"]) (sc := defScope sPairs) (by decide +kernel)) (fun _ _ _ _ _ => pg_name (i := 1) scPairs.nd rfl (Or.inl rfl)) (fun _ _ _ _ _ => pts_nil) (fun _ _ _ _ _ => (pe_tup (pa_cons (pv 1) (pa_cons (pe_dget (hu_of hr) (pv 0) (pv 1) (fun _ _ => rfl)) pa_nil))))) pa_nil))), ?_⟩
    obtain ⟨js0, hks, nd, mem, hlen⟩ := di.keys
    refine ⟨.ref D, rfl, D, kvs, js0, rfl, .inl hD2, hks, fun ys p pm pw hp => ⟨p, rfl, ⟨_, sq_of upd_same⟩, fun D2 hD3 => ?_⟩⟩
    have ndy : ys.Nodup := pm.nodup_iff.mpr nd
    have kf : KeysOf f ys := ⟨lt_of_le_nodup pw ndy, fun k => (pm.mem_iff).trans (mem k)⟩
    have x3 : Ex H (upd H p (.lst (ys.map V.int))) := Ex.new hp
    generalize hH3 : upd H p (.lst (ys.map V.int)) = H3 at x3 hD3
    have hp3 : H3 p = some (.lst (ys.map V.int)) := by rw [← hH3]; exact upd_same
    refine lc_list (K := K) (a := p) (xs := ys.map V.int) (fun i H' => ∃ vs, Ex H3 H' ∧ H' D2 = some (.lst vs) ∧ vs.length = i ∧ DpAll K (hid D2 H') vs ((rowsOf f (ys.take i)).map Tc.pairD)) ⟨[], Ex.new hD3, upd_same, rfl, .nil⟩ (fun i H' _ h => ?_) (fun i x H' hx h => ⟨rfl, ?_⟩) (fun H' h => ?_)
    · obtain ⟨vs, x4, _⟩ := h
      exact sq_of (x4 p _ hp3)
    · obtain ⟨vs, x4, h4, hvl, hv⟩ := h
      rw [List.getElem?_map] at hx
      obtain ⟨kk, hkk, rfl⟩ := Option.map_eq_some_iff.mp hx
      have hm := (kf.2 kk).mp (List.mem_of_getElem? hkk)
      obtain ⟨ww, hww⟩ := Option.isSome_iff_exists.mp hm
      have hval : valV kvs (.inl kk) = some (.int ww) := by rw [di.val, hww]; rfl
      have hi : i < ys.length := (List.getElem?_eq_some_iff.mp hkk).1
      have hyl : ys.length = js0.length := pm.length_eq
      refine iteT (B := ∃ vs, Ex H3 H' ∧ H' D2 = some (.lst vs) ∧ vs.length = i + 1 ∧ DpAll K (hid D2 H') vs ((rowsOf f (ys.take (i + 1))).map Tc.pairD)) ?_
      refine ⟨.int kk, rfl, .ref D, rfl, .int kk, rfl, D, .int ww, rfl, by rw [← hval]; exact DGet.k (k := .inl kk) (x4 D _ (x3 D _ hD2)), sz_of (by simp), fun t ht => ?_⟩
      have htD : t ≠ D2 := fun z => by
        subst z
        rw [h4] at ht
        cases ht
      have x5 : Ex H' (upd H' t (.tup [.int kk, .int ww])) := Ex.new ht
      refine ⟨vs, x5 D2 _ h4, sz_lt (by omega), vs ++ [.ref t], (x4.trans x5).mut hD3, upd_same, by simp [hvl], ?_⟩
      rw [hid_upd, List.take_succ, hkk]
      unfold rowsOf
      rw [List.map_append, List.map_append]
      refine dps_app (dps_same (ex_hid x5) _ _ hv) (.cons ?_ .nil)
      show Dp K _ (.ref t) (.tuple [.int kk, .int ((f kk).getD 0)])
      rw [hww]
      exact .tup (st_of (hid_at upd_same htD)) (.cons (.int kk) (.cons (.int ww) .nil))
    · obtain ⟨vs, x4, h4, _, hv⟩ := h
      rw [List.length_map, List.take_length] at hv
      refine ⟨D2, vs, rfl, sq_of h4, fun t o ht od => ?_⟩
      have xA : Ex H (upd H' t (.frz o (.tup vs))) := (x3.trans x4).trans (Ex.new ht)
      have tn : H t = none := by
        cases e : H t with
        | none => rfl
        | some u =>
          have := ((x3.trans x4) t u e).symm.trans ht
          cases this
      refine q t ys _ tn xA kf (fun j m => ?_) ⟨vs, ⟨o, upd_same, od⟩, dps_same (Ex.new ht) _ _ (dps_same (hid_same D2 H') _ _ hv)⟩
      have := (kf.2 j).mp m
      rw [← (mem j)] at this
      have h2 : (Sum.inl j : Key) ∈ kvs.map (·.1) := hks ▸ List.mem_map.mpr ⟨j, this, rfl⟩
      obtain ⟨pp, hp1, hp2⟩ := List.mem_map.mp h2
      obtain ⟨kk, hk1, hk2⟩ := di.inn pp hp1
      cases (hp2.symm.trans hk2 : (Sum.inl j : Key) = Sum.inl kk)
      exact hk1
abbrev sGroups : Stmt := topS 66
theorem scGroups : FnScope ["log", "entry"] ["log"] (defScope sGroups) := ⟨rfl, rfl, rfl, by decide +kernel, rfl, by decide +kernel, by decide +kernel⟩
theorem ok_groups {f : Addr} {fd : FuncData} {k : Nat} (F : Fun K "_law_groups" "_law_groups" sGroups f fd) : FnOk P w K mg base CX0 (k + 1) f fd ["log"] (spGroups K) := by
  refine F.ok scGroups (fun vs H Q E h => ?_) (fun cdv A outer s H vs Q E hr h => ?_)
  · obtain ⟨l, ks, ds, rfl, _⟩ := h
    rfl
  · obtain ⟨l, ks, ds, rfl, hl, hz, q⟩ := h
    refine ⟨_, pss_one (ps_ret (pe_lc (own := [("entry", 1)]) (g := gName 1) (tt := tYes) (te := tIf (tTest (tOp rEq (tOp (rIxT K) (tVar 1) (tC (.int 0))) (tC (.str "group")))) (tOp (rIxT K) (tVar 1) (tC (.int 1))) (tTup tNil)) rfl scGroups.nd (pi_list (pv 0)) (blkOk_by (N := ["log", "entry"]) (sc := defScope sGroups) (by decide +kernel)) (fun _ _ _ _ _ => pg_name (i := 1) scGroups.nd rfl (Or.inl rfl)) (fun _ _ _ _ _ => pts_nil) (fun _ _ _ _ _ => (pe_ifExp (pt_cmpR op_eq (pe_ix ix_tup (pv 1) pe_int (fun _ _ => rfl)) pe_str (nomark _)) (pe_ix ix_tup (pv 1) pe_int (fun _ _ => rfl)) (pe_tup pa_nil))))), ?_⟩
    obtain ⟨us, hs, hA⟩ := hl.ex
    have hlen := dps_len hA
    refine ⟨.ref l, rfl, l, rfl, ⟨us, hs⟩, fun D hD => ?_⟩
    refine lc_list (K := K) (a := l) (xs := us) (fun i H' => ∃ vs, Ex H H' ∧ H' D = some (.lst vs) ∧ vs.length = i ∧ DpAll K (hid D H') vs ((ds.take i).map gpD)) ⟨[], Ex.new hD, upd_same, rfl, .nil⟩ (fun i H' _ ⟨vs, x, _⟩ => Evl.ex_l x hs) (fun i x H' hx ⟨vs, xH, hv, vl, dA⟩ => ⟨rfl, ?_⟩) (fun H' ⟨vs, xH, hv, vl, dA⟩ => ?_)
    · obtain ⟨d, hd, hxd⟩ := dps_at hA hx
      have hi : i < us.length := (List.getElem?_eq_some_iff.mp hx).1
      have htk : (ds.take (i + 1)).map gpD = (ds.take i).map gpD ++ [gpD d] := by
        rw [List.take_succ, hd, List.map_append]
        rfl
      refine iteT (B := ∃ vs, Ex H H' ∧ H' D = some (.lst vs) ∧ vs.length = i + 1 ∧ DpAll K (hid D H') vs ((ds.take (i + 1)).map gpD)) ?_
      have push : ∀ (y : V) (H2 : Hp), Ex H' H2 → Dp K (hid D H2) y (gpD d) → ∃ acc, H2 D = some (.lst acc) ∧ acc.length < sizeLine ∧ ∃ vs, Ex H (upd H2 D (.lst (acc ++ [y]))) ∧ (upd H2 D (.lst (acc ++ [y]))) D = some (.lst vs) ∧ vs.length = i + 1 ∧ DpAll K (hid D (upd H2 D (.lst (acc ++ [y])))) vs ((ds.take (i + 1)).map gpD) := fun y H2 x2 dy =>
        ⟨vs, x2 D _ hv, sz_lt (by omega), vs ++ [y], (xH.trans x2).mut hD, upd_same, by simp [vl], by
          rw [hid_upd, htk]
          exact dps_app (dps_same (ex_hid x2) _ _ dA) (.cons dy .nil)⟩
      rcases en_kind (hl.good d (List.mem_of_getElem? hd)) with ⟨cs, rfl, _⟩ | ⟨s, i', j', rfl, hns⟩
      · obtain ⟨pa, u0, u1, rfl, ht, h0, h1⟩ := dpt2 hxd
        cases h0
        refine ev_if (b := true) (et_is (et_test (ev_op (ev_ix0 (ev_var rfl) (Evl.ex_t xH ht)) ev_c (rv_eq rfl))) (by simp)) (fun _ => ev_ix1 (ev_var rfl) (Evl.ex_t xH ht)) (fun e => by cases e) H' (Ex.refl H') _ fun H2 x2 => push _ H2 x2 (dp_same (to_hid (xH.trans x2) hD) _ _ h1)
      · obtain ⟨pa, u0, u1, u2, rfl, ht, h0, h1, h2⟩ := dpt3 hxd
        cases h0
        refine (et_is (et_test (ev_op (ev_ix0 (ev_var rfl) (Evl.ex_t xH ht)) ev_c (rv_eq rfl))) (b := false) (by simp [hns])) H' (Ex.refl H') _ fun H1 x1 => ?_
        rw [if_neg (by decide)]
        refine ⟨sz_of (by simp), fun p hp => push _ _ (x1.trans (Ex.new hp)) (.tup (st_of (hid_at upd_same fun z => ?_)) .nil)⟩
        subst z
        rw [x1 p _ hv] at hp
        cases hp
    · rw [hlen, List.take_length] at dA
      exact q D vs H' hD xH hv (dps_same (hid_same D H') _ _ dA)
abbrev sAt : Stmt := topS 67
theorem scAt : FnScope ["table", "log", "place", "rows", "changes"] ["table", "log", "place"] (defScope sAt) := ⟨rfl, rfl, rfl, by decide +kernel, rfl, by decide +kernel, by decide +kernel⟩
theorem ok_at {f : Addr} {fd : FuncData} {kG kD kP k : Nat} (F : Fun K "_law_at" "_law_at" sAt f fd) (N : Names mg) (dG : Own P w K mg base "_law_groups" ["log"] kG (spGroups K)) (hG : kG ≤ k) (dD : Own P w K mg base "_law_done" ["rows", "changes"] kD (spDone K)) (hDn : kD ≤ k) (dP : Own P w K mg base "_law_pairs" ["rows"] kP (spPairs K)) (hP : kP ≤ k) : FnOk P w K mg base CX0 (k + 1) f fd ["table", "log", "place"] (spAt K) := by
  refine F.ok scAt (fun vs H Q E h => ?_) (fun cdv A outer s H vs Q E hr h => ?_)
  · obtain ⟨pt, l, rs, ks, ds, n, rfl, _⟩ := h
    rfl
  · obtain ⟨pt, l, rs, ks, ds, n, rfl, ht, hk, h64, hl, hz, hn, q⟩ := h
    refine ⟨_, (pss_cons (ps_set (i := 3) scAt.nd rfl (.inl rfl) (pe_callTy (cr_dictT rfl) (by rfl) N.dict boot_dict (pa_cons (pv 0) pa_nil)))
      (pss_cons (ps_for PassesOwn.never rfl (pi_list (pe_slice sl_list (pe_own dG hr hG (by rfl) (pa_cons (pv 1) pa_nil)) po_none (po_some (pv 2)))) (pg_name (i := 4) scAt.nd rfl (.inl rfl)) (pss_one (ps_expr (pe_own dD hr hDn (by rfl) (pa_cons (pv 3) (pa_cons (pv 4) pa_nil))))))
      (pss_one (ps_ret (pe_own dP hr hP (by rfl) (pa_cons (pv 3) pa_nil)))))), ?_⟩
    refine s_seq ⟨.ref pt, rfl, ?_⟩
    unfold tNil
    dsimp only
    refine dict_di ht hk fun D kvs0 hD di0 => g_name ?_
    have x1 : Ex H (upd H D (.dK kvs0)) := Ex.new hD
    have hD1 : (upd H D (.dK kvs0)) D = some (.dK kvs0) := upd_same
    generalize hH1 : upd H D (.dK kvs0) = H1 at x1 hD1
    refine s_seq ⟨.ref l, rfl, l, ks, ds, rfl, hl.same x1, hz, fun pg us H2 npg x2 hg dA => ⟨.int (n : Int), rfl, (n : Int), rfl, pg, us, rfl, sq_of hg, fun p hp => ⟨p, rfl, ⟨_, sq_of upd_same⟩, ?_⟩⟩⟩
    have ul : us.length = ds.length := by rw [dps_len dA, List.length_map]
    rw [cut_none us n (by omega)]
    have x3 : Ex H2 (upd H2 p (.lst (us.take n))) := Ex.new hp
    have hp3 : (upd H2 p (.lst (us.take n))) p = some (.lst (us.take n)) := upd_same
    generalize hH3 : upd H2 p (.lst (us.take n)) = H3 at x3 hp3
    have hD3 : H3 D = some (.dK kvs0) := x3 D _ (x2 D _ hD1)
    have pD : p ≠ D := fun z => by
      subst z
      rw [hD3] at hp3
      cases hp3
    have x03 := x1.trans (x2.trans x3)
    have dA3 := dps_same x3 _ _ dA
    have tl : (us.take n).length = n := by rw [List.length_take]; omega
    refine for_list (K := K) (a := p) (xs := us.take n) (fun i σ' H' => ∃ y4 kvs, σ' = [some (.ref pt), some (.ref l), some (.int (n : Int)), some (.ref D), y4] ∧ Bar D H3 H' ∧ H' D = some (.dK kvs) ∧ DI ks kvs (worthsAt rs ds i)) ⟨none, kvs0, rfl, Bar.refl D H3, hD3, di0⟩ (fun i σ' H' _ ⟨_, _, _, b, _⟩ => sq_of (b p _ pD hp3)) ?_ ?_
    · rintro i x σ' H' hx ⟨y4, kvs, rfl, b, hDk, di⟩
      have hi : i < n := by
        have := (List.getElem?_eq_some_iff.mp hx).1
        omega
      rw [List.getElem?_take_of_lt hi] at hx
      obtain ⟨g, hgd, hxg⟩ := dps_at (dps_bar hD3 b _ _ dA3) hx
      rw [List.getElem?_map] at hgd
      obtain ⟨d, hd, rfl⟩ := Option.map_eq_some_iff.mp hgd
      have htk : ds.take (i + 1) = ds.take i ++ [d] := by
        rw [List.take_succ, hd]
        rfl
      have hgc : ∀ c ∈ chsD d, goodCh ks c = true := by
        rcases en_kind (hl.good d (List.mem_of_getElem? hd)) with ⟨cs, rfl, h⟩ | ⟨s, i, j, rfl, _⟩
        · exact h
        · exact fun c m => by cases m
      refine g_name ?_
      dsimp only
      unfold gpD at hxg
      cases hxg with
      | tup hq hc =>
        refine ⟨.ref D, rfl, _, rfl, D, _, ks, kvs, _, _, chsD d, rfl, hDk, di, h64, hq, hc, hgc, fun kvs2 H4 b4 hD4 di4 => ⟨_, kvs2, rfl, b.trans b4, hD4, ?_⟩⟩
        unfold worthsAt
        rw [htk, lgD_snoc, appl_app]
        exact di4
    · rintro σ' H' ⟨y4, kvs, rfl, b, hDk, di⟩
      rw [tl] at di
      have xE : Ex H H' := b.exOf x03 hD
      exact ⟨.ref D, rfl, D, ks, kvs, worthsAt rs ds n, rfl, hDk, di, h64, fun pp js H5 npp x5 kf hj tp => q pp js H5 (fresh_back xE npp) (xE.trans x5) kf hj tp⟩
end
end K18
namespace K18
open PySem L2 PyProof.Rows Tc Evl
def optRow : Option (Int × Int) → PyData
  | none => .none
  | some r => Tc.pairD r
theorem eqv_opt (a b : Option (Int × Int)) : PyData.eqv (optRow a) (optRow b) = decide (a = b) := by
  cases a with
  | none =>
    cases b with
    | none => simp [optRow, PyData.eqv]
    | some r => simp [optRow, Tc.pairD, PyData.eqv]
  | some r =>
    cases b with
    | none => simp [optRow, Tc.pairD, PyData.eqv]
    | some s =>
      obtain ⟨r1, r2⟩ := r
      obtain ⟨s1, s2⟩ := s
      simp [optRow, Tc.pairD, PyData.eqv, PyData.eqvAll]
      rfl
theorem shaped_opt (a : Option (Int × Int)) : SeqAt.shaped (optRow a) = true := by
  cases a with
  | none => rfl
  | some r => rfl
/-- where the next look begins -/
def nxt (b : Int) : Option (Int × Int) → Int
  | none => b
  | some r => r.1 + 1
def lm (T : Nat → Int → Option Int) (b : Int) (high : Nat) : Nat → Nat → Int → List (Option (Int × Int)) → List Nat
  | 0, _, _, _ => []
  | _ + 1, _, _, [] => []
  | n + 1, place, first, w :: ws => if high < place then [] else if leastF (T place) first b = w then place :: lm T b high n place (nxt b w) ws else lm T b high n (place + 1) first (w :: ws)
def lmF (T : Nat → Int → Option Int) (b : Int) (high place : Nat) (first : Int) (ws : List (Option (Int × Int))) : List Nat := lm T b high (high + 1 - place + ws.length) place first ws
section
variable {T : Nat → Int → Option Int} {b : Int} {high place : Nat} {first : Int} {w : Option (Int × Int)} {ws : List (Option (Int × Int))}
theorem lmF_nil : lmF T b high place first [] = [] := by
  unfold lmF
  cases high + 1 - place + ([] : List (Option (Int × Int))).length <;> rfl
theorem lmF_far (h : high < place) : lmF T b high place first ws = [] := by
  cases ws with
  | nil => exact lmF_nil
  | cons w ws =>
    unfold lmF
    rw [show high + 1 - place + (w :: ws).length = ws.length + 1 by rw [List.length_cons]; omega]
    unfold lm
    rw [if_pos h]
theorem lmF_hit (h : place ≤ high) (e : leastF (T place) first b = w) : lmF T b high place first (w :: ws) = place :: lmF T b high place (nxt b w) ws := by
  unfold lmF
  rw [show high + 1 - place + (w :: ws).length = (high + 1 - place + ws.length) + 1 by rw [List.length_cons]; omega]
  rw [lm, if_neg (by omega), if_pos e]
theorem lmF_miss (h : place ≤ high) (e : leastF (T place) first b ≠ w) : lmF T b high place first (w :: ws) = lmF T b high (place + 1) first (w :: ws) := by
  unfold lmF
  rw [show high + 1 - place + (w :: ws).length = (high + 1 - (place + 1) + (w :: ws).length) + 1 by rw [List.length_cons]; omega]
  rw [lm, if_neg (by omega), if_neg e]
/-- by places that rise, or rows that are gone through -/
theorem lm_ind {P : Nat → Int → List (Option (Int × Int)) → Prop} (hn : ∀ place first, P place first []) (hf : ∀ place first ws, high < place → P place first ws)
    (hh : ∀ place first w ws, place ≤ high → leastF (T place) first b = w → P place (nxt b w) ws → P place first (w :: ws)) (hm : ∀ place first w ws, place ≤ high → leastF (T place) first b ≠ w → P (place + 1) first (w :: ws) → P place first (w :: ws)) :
    ∀ (n place : Nat) (first : Int) (ws : List (Option (Int × Int))), high + 1 - place + ws.length ≤ n → P place first ws
  | 0, place, first, ws, h => by
    cases ws with
    | nil => exact hn place first
    | cons w ws => rw [List.length_cons] at h; omega
  | n + 1, place, first, ws, h => by
    by_cases c : high < place
    · exact hf place first ws c
    cases ws with
    | nil => exact hn place first
    | cons w ws =>
      rw [List.length_cons] at h
      by_cases e : leastF (T place) first b = w
      · exact hh place first w ws (by omega) e (lm_ind hn hf hh hm n place _ ws (by omega))
      · exact hm place first w ws (by omega) e (lm_ind hn hf hh hm n (place + 1) first (w :: ws) (by rw [List.length_cons]; omega))
theorem lm_few : (lmF T b high place first ws).length ≤ ws.length := by
  refine lm_ind (T := T) (b := b) (high := high) (P := fun place first ws => (lmF T b high place first ws).length ≤ ws.length) ?_ ?_ ?_ ?_ _ place first ws (Nat.le_refl _)
  · intro place first
    rw [lmF_nil]
    exact Nat.le_refl _
  · intro place first ws c
    rw [lmF_far c]
    exact Nat.zero_le _
  · intro place first w ws c e ih
    rw [lmF_hit c e, List.length_cons, List.length_cons]
    exact Nat.succ_le_succ ih
  · intro place first w ws c e ih
    rw [lmF_miss c e]
    exact ih
end
/-- the rows that are to be read, and the end -/
def wantW (fs : List (Int × Int)) : List (Option (Int × Int)) := fs.map some ++ [none]
/-- rows that were read at some moments are read at the least ones, too -/
theorem greedy {T : Nat → Int → Option Int} {b : Int} {high : Nat} : ∀ (n : Nat) (ms : List Nat) (fs : List (Int × Int)) (place : Nat) (first : Int), high + 1 - place + ms.length ≤ n → looks T b first ms = some fs → ms.Pairwise (· ≤ ·) → (∀ m ∈ ms, place ≤ m ∧ m ≤ high) →
    (lmF T b high place first (wantW fs)).length = fs.length + 1 ∧ looks T b first (lmF T b high place first (wantW fs)) = some fs ∧ (lmF T b high place first (wantW fs)).Pairwise (· ≤ ·) ∧ (∀ m ∈ lmF T b high place first (wantW fs), place ≤ m ∧ m ≤ high) ∧ (∀ (i x y : Nat), (lmF T b high place first (wantW fs))[i]? = some x → ms[i]? = some y → x ≤ y)
  | n, [], fs, place, first, _, h, _, _ => by
    unfold looks at h
    cases h
  | 0, m :: ms, fs, place, first, hn, _, _, _ => by
    rw [List.length_cons] at hn
    omega
  | n + 1, m :: ms, fs, place, first, hn, h, pw, hb => by
    rw [List.length_cons] at hn
    obtain ⟨p1, p2⟩ := List.pairwise_cons.mp pw
    have hm := hb m List.mem_cons_self
    by_cases e : leastF (T place) first b = leastF (T m) first b
    · -- the least moment of this row is here
      cases hl : leastF (T m) first b with
      | none =>
        rw [looks_end hl] at h
        have hms : ms = [] := by
          by_cases z : ms.isEmpty = true
          · exact List.isEmpty_iff.mp z
          · rw [if_neg z] at h
            cases h
        subst hms
        rw [if_pos (by rfl)] at h
        cases h
        rw [hl] at e
        have e2 : lmF T b high place first (wantW []) = [place] := by
          show lmF T b high place first [none] = _
          rw [lmF_hit (by omega) e, lmF_nil]
        rw [e2]
        refine ⟨rfl, ?_, List.pairwise_singleton _ _, fun x mx => ?_, fun i x y hx hy => ?_⟩
        · rw [looks_end e]
          rfl
        · rw [List.mem_singleton.mp mx]
          omega
        · cases i with
          | zero =>
            simp only [List.getElem?_cons_zero, Option.some.injEq] at hx hy
            omega
          | succ i => simp at hx
      | some r =>
        rw [looks_on hl] at h
        obtain ⟨fs', h', rfl⟩ := Option.map_eq_some_iff.mp h
        rw [hl] at e
        have e2 : lmF T b high place first (wantW (r :: fs')) = place :: lmF T b high place (r.1 + 1) (wantW fs') := by
          show lmF T b high place first (some r :: wantW fs') = _
          rw [lmF_hit (by omega) e]
          rfl
        obtain ⟨g1, g2, g3, g4, g5⟩ := greedy n ms fs' place (r.1 + 1) (by omega) h' p2 fun x mx => ⟨Nat.le_trans hm.1 (p1 x mx), (hb x (List.mem_cons_of_mem _ mx)).2⟩
        rw [e2]
        refine ⟨by rw [List.length_cons, g1, List.length_cons], by rw [looks_on e, g2]; rfl, List.pairwise_cons.mpr ⟨fun x mx => (g4 x mx).1, g3⟩, fun x mx => ?_, fun i x y hx hy => ?_⟩
        · rcases List.mem_cons.mp mx with z | z
          · rw [z]
            omega
          · exact g4 x z
        · cases i with
          | zero =>
            simp only [List.getElem?_cons_zero, Option.some.injEq] at hx hy
            omega
          | succ i => exact g5 i x y (by simpa using hx) (by simpa using hy)
    · have lt : place < m := by
        by_cases z : place = m
        · subst z
          exact absurd rfl e
        · omega
      obtain ⟨w, ws, ew, hw⟩ : ∃ w ws, wantW fs = w :: ws ∧ leastF (T m) first b = w := by
        cases hl : leastF (T m) first b with
        | none =>
          rw [looks_end hl] at h
          split at h
          · cases h
            exact ⟨none, [], rfl, rfl⟩
          · cases h
        | some r =>
          rw [looks_on hl] at h
          obtain ⟨fs', h', rfl⟩ := Option.map_eq_some_iff.mp h
          exact ⟨some r, wantW fs', rfl, rfl⟩
      have e2 : lmF T b high place first (wantW fs) = lmF T b high (place + 1) first (wantW fs) := by
        rw [ew]
        exact lmF_miss (by omega) (by rw [← hw]; exact e)
      obtain ⟨g1, g2, g3, g4, g5⟩ := greedy n (m :: ms) fs (place + 1) first (by rw [List.length_cons]; omega) h pw fun x mx => ⟨by
        rcases List.mem_cons.mp mx with z | z
        · omega
        · have := p1 x z
          omega, (hb x mx).2⟩
      rw [e2]
      exact ⟨g1, g2, g3, fun x mx => ⟨by have := (g4 x mx).1; omega, (g4 x mx).2⟩, g5⟩
abbrev sLm : Stmt := topS 49
theorem scLm : FnScope ["table", "log", "low", "high", "stretch", "rows", "first", "last", "wanted", "there", "place", "found", "row"] ["table", "log", "low", "high", "stretch", "rows"] (defScope sLm) := ⟨rfl, rfl, rfl, by decide +kernel, rfl, by decide +kernel, by decide +kernel⟩
abbrev sMo : Stmt := topS 50
theorem scMo : FnScope ["table", "log", "low", "high", "stretch", "rows", "found"] ["table", "log", "low", "high", "stretch", "rows"] (defScope sMo) := ⟨rfl, rfl, rfl, by decide +kernel, rfl, by decide +kernel, by decide +kernel⟩
abbrev sOdd : Stmt := topS 51
theorem scOdd : FnScope ["table", "log", "low", "high", "stretch", "rows", "found"] ["table", "log", "low", "high", "stretch", "rows"] (defScope sOdd) := ⟨rfl, rfl, rfl, by decide +kernel, rfl, by decide +kernel, by decide +kernel⟩
/-- places as values -/
abbrev msV (ms : List Nat) : List V := ms.map fun (m : Nat) => V.int (m : Int)
def spLm (K : PySem.W.Frag) : Sp := fun vs H Q _ => ∃ (v vr : V) (rs rws : List (Int × Int)) (l sp : Addr) (ks : List Int) (ds : List PyData) (a b : Int) (low high : Nat), vs = [v, .ref l, .int (low : Int), .int (high : Int), .ref sp, vr] ∧ Dp K H v (rowsD rs) ∧ (∀ r ∈ rs, r.1 ∈ ks) ∧ ks.length ≤ 1000 ∧ LogAt K H l ks ds ∧ low ≤ high ∧ high ≤ ds.length ∧ SqT K H sp [.int a, .int b] ∧ 0 ≤ a ∧ a ≤ 1000 ∧ 0 ≤ b ∧ b ≤ 1000 ∧ Dp K H vr (rowsD rws) ∧ rws.length ≤ 5000 ∧
  ∀ p H', H p = none → Ex H H' → H' p = some (.lst (msV (lmF (worthsAt rs ds) b high low a (wantW rws)))) → Q (.ref p) H'
def spMo (K : PySem.W.Frag) : Sp := fun vs H Q _ => ∃ (v vr : V) (rs rws : List (Int × Int)) (l sp : Addr) (ks : List Int) (ds : List PyData) (a b : Int) (low high : Nat), vs = [v, .ref l, .int (low : Int), .int (high : Int), .ref sp, vr] ∧ Dp K H v (rowsD rs) ∧ (∀ r ∈ rs, r.1 ∈ ks) ∧ ks.length ≤ 1000 ∧ LogAt K H l ks ds ∧ low ≤ high ∧ high ≤ ds.length ∧ SqT K H sp [.int a, .int b] ∧ 0 ≤ a ∧ a ≤ 1000 ∧ 0 ≤ b ∧ b ≤ 1000 ∧ Dp K H vr (rowsD rws) ∧ rws.length ≤ 5000 ∧
  (rws.length < (lmF (worthsAt rs ds) b high low a (wantW rws)).length → ∀ p H', H p = none → Ex H H' → PT H' p (msV (lmF (worthsAt rs ds) b high low a (wantW rws))) → Q (.ref p) H') ∧ (¬ rws.length < (lmF (worthsAt rs ds) b high low a (wantW rws)).length → ∀ H', Ex H H' → Q .non H')
def spOdd (K : PySem.W.Frag) : Sp := fun vs H Q _ => ∃ (v vr : V) (rs rws : List (Int × Int)) (l sp : Addr) (ks : List Int) (ds : List PyData) (a b : Int) (low high : Nat), vs = [v, .ref l, .int (low : Int), .int (high : Int), .ref sp, vr] ∧ Dp K H v (rowsD rs) ∧ (∀ r ∈ rs, r.1 ∈ ks) ∧ ks.length ≤ 1000 ∧ LogAt K H l ks ds ∧ low ≤ high ∧ high ≤ ds.length ∧ SqT K H sp [.int a, .int b] ∧ 0 ≤ a ∧ a ≤ 1000 ∧ 0 ≤ b ∧ b ≤ 1000 ∧ Dp K H vr (rowsD rws) ∧ rws.length ≤ 5000 ∧
  (rws.length < (lmF (worthsAt rs ds) b high low a (wantW rws)).length → ∀ H', Ex H H' → Q .non H') ∧ (¬ rws.length < (lmF (worthsAt rs ds) b high low a (wantW rws)).length → ∀ H', Ex H H' → Q (.int (((lmF (worthsAt rs ds) b high low a (wantW rws)).length : Nat) : Int)) H')
theorem dps_want {K : PySem.W.Frag} {H : Hp} {xs : List V} {rws : List (Int × Int)} (h : DpAll K H xs (rws.map Tc.pairD)) : DpAll K H (xs ++ [.non]) ((wantW rws).map optRow) := by
  unfold wantW
  rw [List.map_append, List.map_map]
  exact dps_app h (.cons .non .nil)
theorem nl_opt (o : Option (Int × Int)) : nl 1 (optRow o) = true := by cases o <;> rfl
section
variable {P : Program} {w : World} {K : PySem.W.Frag} {mg : Str → Option Value} {base : Heap}
abbrev sPl : Stmt := topS 41
theorem scPl : FnScope ["log", "place"] ["log", "place"] (defScope sPl) := ⟨rfl, rfl, rfl, by decide +kernel, rfl, by decide +kernel, by decide +kernel⟩
theorem ok_place {f : Addr} {fd : FuncData} {k : Nat} (F : Fun K "check_place" "check_place" sPl f fd) (N : Names mg) : FnOk P w K mg base CX0 (k + 1) f fd ["log", "place"] (spPlace K) := by
  refine F.ok scPl (fun vs H Q E h => ?_) (fun cdv A outer s H vs Q E hr h => ?_)
  · obtain ⟨l, us, n, rfl, _⟩ := h
    rfl
  · obtain ⟨l, us, n, rfl, hs, hn, q⟩ := h
    refine ⟨_, pss_one (ps_if (pt_not (pt_chain op_le op_le pe_int (pv 1) (pe_callB call_len_seq (by rfl) N.len PySem.boot_len (pa_cons (pv 0) pa_nil)))) pss_never pss_nil), ?_⟩
    exact s_if (b := false) (et_is (et_not (et_test (ev_chain (p := fun i j => decide (i ≤ j)) (p' := fun i j => decide (i ≤ j)) ev_c (ev_var rfl) (ev_len (ev_var rfl) hs)))) (by
      rw [decide_eq_true (by omega), decide_eq_true (by omega)]
      rfl)) (fun e => by cases e) fun _ H1 x1 => s_next (q H1 x1)
theorem least_of {H : Hp} {σ : L2.St} {ta : TA} {Q : VK} {E : XK} {Dd : Addr} {kvs : List (Key × V)} {f : Int → Option Int} {a b : Int} (ha : EvA ta σ H [.ref Dd, .int a, .int b]) (hD : H Dd = some (.dK kvs)) (hv : ∀ k, valV kvs (.inl k) = (f k).map V.int) (a0 : 0 ≤ a) (a1 : a ≤ 1000) (b0 : 0 ≤ b) (b1 : b ≤ 1000)
    (k : ∀ v H', Ex H H' → Dp K H' v (optRow (leastF f a b)) → Q v H') : tCall spLeast [] E ta σ H Q :=
  ha H (Ex.refl H) _ fun H1 e => ⟨Dd, kvs, f, a, b, rfl, e _ _ hD, hv, a0, by omega, b0, by omega, fun z H' x' => k .non H' (e.trans x') (by rw [z]; exact .non), fun kk zz z p H' _ x' hp => k (.ref p) H' (e.trans x') (by rw [z]; exact .tup (st_of hp) (.cons (.int kk) (.cons (.int zz) .nil)))⟩
theorem carry_of {H : Hp} {σ : L2.St} {ta : TA} {Q : VK} {E : XK} {Dd l : Addr} {ks : List Int} {kvs : List (Key × V)} {f : Int → Option Int} {ds : List PyData} {lo hi : Nat} (ha : EvA ta σ H [.ref Dd, .ref l, .int (lo : Int), .int (hi : Int)]) (hD : H Dd = some (.dK kvs)) (di : DI ks kvs f) (h64 : ks.length ≤ 1000) (hl : LogAt K H l ks ds) (h1 : lo ≤ hi)
    (k : ∀ kvs' H', Bar Dd H H' → H' Dd = some (.dK kvs') → DI ks kvs' (appl f (lgD ((ds.drop lo).take (hi - lo)))) → Q .non H') : tCall (spCarryM K) [] E ta σ H Q :=
  ha H (Ex.refl H) _ fun H1 e => ⟨Dd, l, ks, kvs, f, ds, lo, hi, rfl, e _ _ hD, di, h64, hl.same e, h1, fun kvs' H' b' => k kvs' H' ((Bar.ex e).trans b')⟩
set_option maxHeartbeats 1000000 in
theorem ok_lm {f : Addr} {fd : FuncData} {kP kRo kCa kLe k : Nat} (F : Fun K "least_moments" "least_moments" sLm f fd) (N : Names mg) (dP : Own P w K mg base "check_place" ["log", "place"] kP (spPlace K)) (hP : kP ≤ k) (dRo : Own P w K mg base "rows_at" ["table", "log", "place"] kRo (spRowsAtM K)) (hRo : kRo ≤ k) (dCa : Own P w K mg base "carry" ["rows", "log", "low", "high"] kCa (spCarryM K)) (hCa : kCa ≤ k) (dLe : Own P w K mg base "least_row" ["rows", "first", "last"] kLe spLeast) (hLe : kLe ≤ k) :
    FnOk P w K mg base CX0 (k + 1) f fd ["table", "log", "low", "high", "stretch", "rows"] (spLm K) := by
  refine F.ok scLm (fun vs H Q E h => ?_) (fun cdv A outer s H vs Q E hr h => ?_)
  · obtain ⟨v, vr, rs, rws, l, sp, ks, ds, a, b, low, high, rfl, _⟩ := h
    rfl
  · obtain ⟨v, vr, rs, rws, l, sp, ks, ds, a, b, low, high, rfl, hd, hk, h64, hl, lo1, hi1, hsp, a0, a1, b0, b1, hvr, rl, q⟩ := h
    refine ⟨_, (pss_cons (ps_expr (pe_own dP hr hP (by rfl) (pa_cons (pv 1) (pa_cons (pv 2) pa_nil))))
      (pss_cons (ps_expr (pe_own dP hr hP (by rfl) (pa_cons (pv 1) (pa_cons (pv 3) pa_nil))))
      (pss_cons (ps_asg (pv 4) (pg_tup rfl (pgs_cons (pg_name (i := 6) scLm.nd rfl (.inl rfl)) (pgs_cons (pg_name (i := 7) scLm.nd rfl (.inl rfl)) pgs_nil))))
      (pss_cons (ps_set (i := 8) scLm.nd rfl (.inl rfl) (pe_lst (StX.pa_star (pv 5) (pa_cons pe_non pa_nil))))
      (pss_cons (ps_set (i := 9) scLm.nd rfl (.inl rfl) (pe_own dRo hr hRo (by rfl) (pa_cons (pv 0) (pa_cons (pv 1) (pa_cons (pv 2) pa_nil)))))
      (pss_cons (ps_set (i := 10) scLm.nd rfl (.inl rfl) (pv 2))
      (pss_cons (ps_set (i := 11) scLm.nd rfl (.inl rfl) (pe_lst pa_nil))
      (pss_cons (ps_while PassesOwn.never (PW.pt (pw_and (pt_cmpR op_le (pv 10) (pv 3) (nomark _)) (pw_and1 (pt_cmpR op_lt (pe_callB call_len_seq (by rfl) N.len PySem.boot_len (pa_cons (pv 11) pa_nil)) (pe_callB call_len_seq (by rfl) N.len PySem.boot_len (pa_cons (pv 8) pa_nil)) (nomark _))))) (pss_cons (ps_set (i := 12) scLm.nd rfl (.inl rfl) (pe_own dLe hr hLe (by rfl) (pa_cons (pv 9) (pa_cons (pv 6) (pa_cons (pv 7) pa_nil)))))
      (pss_one (ps_if (pt_cmpR (op_eqD hr.units) (pv 12) (pe_ix ix_list (pv 8) (pe_callB call_len_seq (by rfl) N.len PySem.boot_len (pa_cons (pv 11) pa_nil)) (fun _ _ => rfl)) (nomark _)) (pss_cons (ps_expr (pe_bm PySem.F.plainAttrs_list PySem.F.slot_list_append PySem.F.type_list_append mt_append (pv 11) (pa_cons (pv 10) pa_nil)))
      (pss_one (ps_set (i := 6) scLm.nd rfl (.inl rfl) (pe_ifExp (pt_cmpR op_isN1 (pv 12) pe_non (nomark _)) (pv 7) (pe_op op_add (pe_ix ix_tup (pv 12) pe_int (fun _ _ => rfl)) pe_int))))) (pss_cons (ps_expr (pe_own dCa hr hCa (by rfl) (pa_cons (pv 9) (pa_cons (pv 1) (pa_cons (pv 10) (pa_cons (pe_op op_add (pv 10) pe_int) pa_nil))))))
      (pss_one (ps_aug (i := 10) scLm.nd rfl (.inl rfl) pe_int ip_add)))))))
      (pss_one (ps_ret (pv 11))))))))))), ?_⟩
    obtain ⟨us, hs, hA⟩ := hl.ex
    have ul := dps_len hA
    refine s_seq ⟨.ref l, rfl, .int (low : Int), rfl, l, us, low, rfl, hs, by omega, fun H1 x1 => ?_⟩
    refine s_seq ⟨.ref l, rfl, .int (high : Int), rfl, l, us, high, rfl, Evl.ex_l x1 hs, by omega, fun H2 x2 => ?_⟩
    have x02 := x1.trans x2
    refine s_seq ⟨.ref sp, rfl, sp, _, rfl, Evl.ex_t x02 hsp, rfl, _, _, rfl, _, _, rfl, rfl, ?_⟩
    dsimp only
    obtain ⟨pr, xs, rfl, hps, hpA⟩ : ∃ pr xs, vr = .ref pr ∧ SqT K H pr xs ∧ DpAll K H xs (rws.map Tc.pairD) := by
      cases hvr with
      | tup hs hA => exact ⟨_, _, rfl, hs, hA⟩
    have xl : xs.length = rws.length := by rw [dps_len hpA, List.length_map]
    refine s_seq ⟨.ref pr, rfl, pr, xs, rfl, .inl (Evl.ex_t x02 hps), sz_of (by simp; omega), fun wl hwl => g_name ?_⟩
    dsimp only
    have x3 : Ex H2 (upd H2 wl (.lst (xs ++ [.non]))) := Ex.new hwl
    have hw3 : (upd H2 wl (.lst (xs ++ [.non]))) wl = some (.lst (xs ++ [.non])) := upd_same
    generalize hH3 : upd H2 wl (.lst (xs ++ [.non])) = H3 at x3 hw3
    have x03 := x02.trans x3
    have wA3 : DpAll K H3 (xs ++ [.non]) ((wantW rws).map optRow) := dps_want (dps_same x03 _ _ hpA)
    have wl0 : H wl = none := fresh_back x02 hwl
    have wlen : (wantW rws).length = xs.length + 1 := by unfold wantW; simp [xl]
    refine s_seq ⟨v, rfl, .ref l, rfl, .int (low : Int), rfl, v, rs, l, ks, ds, low, rfl, dp_same x03 _ _ hd, hk, h64, hl.same x03, by omega, fun Dd kvs0 H4 hD0 x4 hD4 di0 => g_name ?_⟩
    dsimp only
    refine s_seq (s_asg (ev_var rfl) fun H5 x5 => ?_)
    refine s_seq ⟨Nat.zero_le _, fun fl hfl => g_name ?_⟩
    dsimp only
    have x6 : Ex H5 (upd H5 fl (.lst [])) := Ex.new hfl
    have hf6 : (upd H5 fl (.lst [])) fl = some (.lst []) := upd_same
    generalize hH6 : upd H5 fl (.lst []) = H6 at x6 hf6
    have x46 := x5.trans x6
    have D0 : H Dd = none := fresh_back x03 hD0
    have fl0 : H fl = none := fresh_back ((x03.trans x4).trans x5) hfl
    have hDf : Dd ≠ fl := fun z => by
      subst z
      rw [x5 _ _ hD4] at hfl
      cases hfl
    have hDw : Dd ≠ wl := fun z => by
      subst z
      rw [hw3] at hD0
      cases hD0
    have hwf : wl ≠ fl := fun z => by
      subst z
      rw [x5 _ _ (x4 _ _ hw3)] at hfl
      cases hfl
    refine s_seq (s_while (fun m σ' H' => ∃ (first : Int) (place : Nat) (kvs : List (Key × V)) (fnd : List Nat) (y12 : Option V), σ' = [some v, some (.ref l), some (.int (low : Int)), some (.int (high : Int)), some (.ref sp), some (.ref pr), some (.int first), some (.int b), some (.ref wl), some (.ref Dd), some (.int (place : Int)), some (.ref fl), y12] ∧ Ex H H' ∧ H' Dd = some (.dK kvs) ∧ DI ks kvs (worthsAt rs ds place) ∧ place ≤ high + 1 ∧ 0 ≤ first ∧ first ≤ 1000 ∧ H' wl = some (.lst (xs ++ [.non])) ∧ DpAll K H' (xs ++ [.non]) ((wantW rws).map optRow) ∧ H' fl = some (.lst (msV fnd)) ∧ fnd.length ≤ (wantW rws).length ∧ lmF (worthsAt rs ds) b high low a (wantW rws) = fnd ++ lmF (worthsAt rs ds) b high place first ((wantW rws).drop fnd.length) ∧ m = high + 1 - place + ((wantW rws).length - fnd.length)) _ ⟨a, low, kvs0, [], none, rfl, (x03.trans x4).trans x46, x46 _ _ hD4, di0, by omega, a0, a1, x46 _ _ (x4 _ _ hw3), dps_same (x4.trans x46) _ _ wA3, hf6, Nat.zero_le _, by rw [List.nil_append]; rfl, rfl⟩ ?_)
    rintro m σ' H' ⟨first, place, kvs, fnd, y12, rfl, xH, hDk, di, ple, f0, f1, hwl', wA, hfl', fle, lk, hm⟩
    have wl1 : (xs ++ [V.non]).length = (wantW rws).length := by rw [wlen]; simp
    have flen : fnd.length ≤ 5001 := by omega
    refine ⟨decide ((place : Int) ≤ (high : Int)) && decide (((msV fnd).length : Int) < ((xs ++ [V.non]).length : Int)), et_and (et_test (ev_op (ev_var rfl) (ev_var rfl) rv_I0)) (fun _ => et_test (ev_op (ev_len (ev_var rfl) (sq_of (K := K) hfl')) (ev_len (ev_var rfl) (sq_of (K := K) hwl')) rv_I0)), fun c H7 x7 => ⟨_, fun _ _ z => z, ?_⟩, fun c H7 x7 => ?_⟩
    · rw [Bool.and_eq_true] at c
      have c1 : place ≤ high := by have := of_decide_eq_true c.1; omega
      have c2 : fnd.length < (wantW rws).length := by
        have := of_decide_eq_true c.2
        rw [List.length_map] at this
        omega
      obtain ⟨wj, hj⟩ : ∃ wj, (wantW rws)[fnd.length]? = some wj := ⟨_, List.getElem?_eq_getElem c2⟩
      have hdrop : (wantW rws).drop fnd.length = wj :: (wantW rws).drop (fnd.length + 1) := by
        rw [List.drop_eq_getElem_cons c2]
        rw [List.getElem?_eq_getElem c2] at hj
        rw [Option.some.inj hj]
      refine s_seq (least_of (K := K) (f := worthsAt rs ds place) (ea_cons (ev_var rfl) (ea_cons (ev_var rfl) (ea_cons (ev_var rfl) ea_nil))) (x7 _ _ hDk) di.val f0 f1 b0 b1 fun rv H8 x8 dr => g_name ?_)
      dsimp only
      have x78 := x7.trans x8
      obtain ⟨uj, huj, duj⟩ := dps_at' (dps_same x78 _ _ wA) (show ((wantW rws).map optRow)[fnd.length]? = some (optRow wj) by rw [List.getElem?_map, hj]; rfl)
      have evr : Ev (tOp (rEqD K) (tVar 12) (tOp (rIxL K) (tVar 8) (tCB (rLenS K) (tCons (tVar 11) tNil)))) [some v, some (.ref l), some (.int (low : Int)), some (.int (high : Int)), some (.ref sp), some (.ref pr), some (.int first), some (.int b), some (.ref wl), some (.ref Dd), some (.int (place : Int)), some (.ref fl), some rv] H8 (.bl (PyData.eqv (optRow (leastF (worthsAt rs ds place) first b)) (optRow wj))) :=
        ev_op (ev_var rfl) (ev_lx (j := fnd.length) (ev_var rfl) (ev_is (ev_len (ev_var rfl) (sq_of (K := K) (x78 _ _ hfl'))) (by rw [List.length_map])) (sq_of (x78 _ _ hwl')) huj) fun H9 x9 Q' q' => ⟨_, _, dp_same x9 _ _ dr, dp_same x9 _ _ duj, shaped_opt _, shaped_opt _, q' H9 (Ex.refl H9)⟩
      refine s_if (b := decide (leastF (worthsAt rs ds place) first b = wj)) (et_is (et_test evr) (eqv_opt _ _)) (fun e H9 x9 => ?_) (fun e H9 x9 => ?_)
      · have e1 := of_decide_eq_true e
        rw [hdrop, lmF_hit c1 e1] at lk
        have x79 := x78.trans x9
        refine s_seq (s_app (x79 _ _ hfl') (ev_var rfl) (ev_var rfl) (by rw [List.length_map]; omega) fun H10 x10 => ?_)
        have x710 := x79.trans x10
        have bF : Bar fl H10 (upd H10 fl (.lst (msV fnd ++ [.int (place : Int)]))) := (Bar.refl fl H10).put
        have hfl10 := x710 _ _ hfl'
        have dr10 : Dp K (upd H10 fl (.lst (msV fnd ++ [.int (place : Int)]))) rv (optRow wj) := dp_nl hfl10 bF 1 _ rv (nl_opt _) (by rw [← e1]; exact dp_same (x9.trans x10) _ _ dr)
        have nb : 0 ≤ nxt b wj ∧ nxt b wj ≤ 1000 := by
          cases wj with
          | none => exact ⟨b0, b1⟩
          | some r =>
            have bd := least_bd _ _ _ _ (show least (worthsAt rs ds place) (b - first).toNat first = some (r.1, r.2) from e1)
            show 0 ≤ r.1 + 1 ∧ r.1 + 1 ≤ 1000
            omega
        have evf : Ev (tIf (tTest (tOp rIsN (tVar 12) (tC .non))) (tVar 7) (tOp (rI0 fun i j => .int (i + j)) (tOp (rIxT K) (tVar 12) (tC (.int 0))) (tC (.int 1)))) [some v, some (.ref l), some (.int (low : Int)), some (.int (high : Int)), some (.ref sp), some (.ref pr), some (.int first), some (.int b), some (.ref wl), some (.ref Dd), some (.int (place : Int)), some (.ref fl), some rv] (upd H10 fl (.lst (msV fnd ++ [.int (place : Int)]))) (.int (nxt b wj)) := by
          cases wj with
          | none =>
            cases dr10
            exact ev_if (b := true) (et_is (et_test (ev_op (ev_var rfl) ev_c fun H1 _ Q' q' => ⟨rfl, q' H1 (Ex.refl H1)⟩)) (decide_eq_true rfl)) (fun _ => ev_var rfl) fun z => by cases z
          | some r =>
            obtain ⟨pp, u0, u1, rfl, ht, h0, h1⟩ := dpt2 dr10
            cases h0
            exact ev_if (b := false) (et_is (et_test (ev_op (ev_var rfl) ev_c fun H1 _ Q' q' => ⟨rfl, q' H1 (Ex.refl H1)⟩)) (decide_eq_false fun z => nomatch z)) (fun z => by cases z) fun _ => ev_op (ev_ix0 (ev_var rfl) ht) ev_c rv_add
        refine s_asg evf fun H11 x11 => ⟨_, ?lt, nxt b wj, place, kvs, fnd ++ [place], _, rfl, ((xH.trans x710).mut fl0).trans x11, x11 _ _ (bF _ _ hDf (x710 _ _ hDk)), di, ple, nb.1, nb.2, x11 _ _ (bF _ _ hwf (x710 _ _ hwl')), dps_same x11 _ _ (dps_each (fun d md u => dp_nl hfl10 bF 1 d u (by
          obtain ⟨o, _, rfl⟩ := List.mem_map.mp md
          exact nl_opt o)) (dps_same x710 _ _ wA)), x11 _ _ (by rw [upd_same]; unfold msV; rw [List.map_append]; rfl), by rw [List.length_append]; simp; omega, ?_, rfl⟩
        case lt =>
          rw [hm, List.length_append]
          simp
          omega
        · rw [lk, List.append_assoc, List.length_append]
          rfl
      · have e1 := of_decide_eq_false e
        rw [hdrop, lmF_miss c1 e1, ← hdrop] at lk
        have x79 := x78.trans x9
        refine s_seq (carry_of (K := K) (f := worthsAt rs ds place) (lo := place) (hi := place + 1) (ea_cons (ev_var rfl) (ea_cons (ev_var rfl) (ea_cons (ev_var rfl) (ea_cons (ev_op (ev_var rfl) ev_c rv_add) ea_nil)))) (x79 _ _ hDk) di h64 (hl.same (xH.trans x79)) (by omega) fun kvs2 H11 b11 hD11 di11 => ?_)
        rw [worths_on rs ds (by omega)] at di11
        refine s_aug rfl ev_c fun H12 x12 => ⟨_, ?lt2, first, place + 1, kvs2, fnd, _, rfl, (b11.exOf (xH.trans x79) D0).trans x12, x12 _ _ hD11, di11, by omega, f0, f1, x12 _ _ (b11 _ _ hDw.symm (x79 _ _ hwl')), dps_same x12 _ _ (dps_bar (x79 _ _ hDk) b11 _ _ (dps_same x79 _ _ wA)), x12 _ _ (b11 _ _ hDf.symm (x79 _ _ hfl')), fle, lk, rfl⟩
        case lt2 =>
          rw [hm]
          omega
    · have lk2 : lmF (worthsAt rs ds) b high low a (wantW rws) = fnd := by
        rw [lk]
        rw [Bool.and_eq_false_iff] at c
        rcases c with c | c
        · have := of_decide_eq_false c
          rw [lmF_far (by omega), List.append_nil]
        · have := of_decide_eq_false c
          rw [List.length_map] at this
          rw [List.drop_of_length_le (by omega), lmF_nil, List.append_nil]
      refine ⟨.ref fl, rfl, q fl H7 fl0 (xH.trans x7) ?_⟩
      rw [lk2]
      exact x7 _ _ hfl'
theorem ok_mo {f : Addr} {fd : FuncData} {kLm k : Nat} (F : Fun K "moments" "moments" sMo f fd) (N : Names mg) (dLm : Own P w K mg base "least_moments" ["table", "log", "low", "high", "stretch", "rows"] kLm (spLm K)) (hLm : kLm ≤ k) : FnOk P w K mg base CX0 (k + 1) f fd ["table", "log", "low", "high", "stretch", "rows"] (spMo K) := by
  refine F.ok scMo (fun vs H Q E h => ?_) (fun cdv A outer s H vs Q E hr h => ?_)
  · obtain ⟨v, vr, rs, rws, l, sp, ks, ds, a, b, low, high, rfl, _⟩ := h
    rfl
  · obtain ⟨v, vr, rs, rws, l, sp, ks, ds, a, b, low, high, rfl, hd, hk, h64, hl, lo1, hi1, hsp, a0, a1, b0, b1, hvr, rl, qs, qn⟩ := h
    refine ⟨_, (pss_cons (ps_set (i := 6) scMo.nd rfl (.inl rfl) (pe_own dLm hr hLm (by rfl) (pa_cons (pv 0) (pa_cons (pv 1) (pa_cons (pv 2) (pa_cons (pv 3) (pa_cons (pv 4) (pa_cons (pv 5) pa_nil)))))))) (pss_one (ps_ret (pe_ifExp (pt_cmpR op_gt (pe_callB call_len_seq (by rfl) N.len PySem.boot_len (pa_cons (pv 6) pa_nil)) (pe_callB call_len_seq (by rfl) N.len PySem.boot_len (pa_cons (pv 5) pa_nil)) (nomark _)) (pe_callTy cr_tupP (by rfl) N.tuple boot_tuple (pa_cons (pv 6) pa_nil)) pe_non)))), ?_⟩
    obtain ⟨pr, xs, rfl, hps, hpA⟩ : ∃ pr xs, vr = .ref pr ∧ SqT K H pr xs ∧ DpAll K H xs (rws.map Tc.pairD) := by
      cases hvr with
      | tup hs hA => exact ⟨_, _, rfl, hs, hA⟩
    have xl : xs.length = rws.length := by rw [dps_len hpA, List.length_map]
    refine s_seq ⟨v, rfl, .ref l, rfl, .int (low : Int), rfl, .int (high : Int), rfl, .ref sp, rfl, .ref pr, rfl, v, .ref pr, rs, rws, l, sp, ks, ds, a, b, low, high, rfl, hd, hk, h64, hl, lo1, hi1, hsp, a0, a1, b0, b1, hvr, rl, fun p H1 np x1 hp1 => g_name ?_⟩
    dsimp only
    refine et_test (ev_op (ev_len (ev_var rfl) (sq_of (K := K) hp1)) (ev_lenT (ev_var rfl) (Evl.ex_t x1 hps)) rv_I0) H1 (Ex.refl H1) _ fun H2 x2 => ite2 (fun c => ?_) (fun c => ?_)
    · have c1 := of_decide_eq_true c
      rw [List.length_map] at c1
      exact ⟨.ref p, rfl, p, _, rfl, sq_of (x2 _ _ hp1), fun t o ht od => qs (by omega) t _ (fresh_back (x1.trans x2) ht) ((x1.trans x2).trans (Ex.new ht)) ⟨o, upd_same, od⟩⟩
    · have c1 : ¬ ((xs.length : Int) < ((msV (lmF (worthsAt rs ds) b high low a (wantW rws))).length : Int)) := fun z => c (decide_eq_true z)
      rw [List.length_map] at c1
      exact qn (by omega) H2 (x1.trans x2)
theorem ok_odd {f : Addr} {fd : FuncData} {kLm k : Nat} (F : Fun K "odd" "odd" sOdd f fd) (N : Names mg) (dLm : Own P w K mg base "least_moments" ["table", "log", "low", "high", "stretch", "rows"] kLm (spLm K)) (hLm : kLm ≤ k) : FnOk P w K mg base CX0 (k + 1) f fd ["table", "log", "low", "high", "stretch", "rows"] (spOdd K) := by
  refine F.ok scOdd (fun vs H Q E h => ?_) (fun cdv A outer s H vs Q E hr h => ?_)
  · obtain ⟨v, vr, rs, rws, l, sp, ks, ds, a, b, low, high, rfl, _⟩ := h
    rfl
  · obtain ⟨v, vr, rs, rws, l, sp, ks, ds, a, b, low, high, rfl, hd, hk, h64, hl, lo1, hi1, hsp, a0, a1, b0, b1, hvr, rl, qs, qn⟩ := h
    refine ⟨_, (pss_cons (ps_set (i := 6) scOdd.nd rfl (.inl rfl) (pe_own dLm hr hLm (by rfl) (pa_cons (pv 0) (pa_cons (pv 1) (pa_cons (pv 2) (pa_cons (pv 3) (pa_cons (pv 4) (pa_cons (pv 5) pa_nil)))))))) (pss_one (ps_ret (pe_ifExp (pt_cmpR op_gt (pe_callB call_len_seq (by rfl) N.len PySem.boot_len (pa_cons (pv 6) pa_nil)) (pe_callB call_len_seq (by rfl) N.len PySem.boot_len (pa_cons (pv 5) pa_nil)) (nomark _)) pe_non (pe_callB call_len_seq (by rfl) N.len PySem.boot_len (pa_cons (pv 6) pa_nil)))))), ?_⟩
    obtain ⟨pr, xs, rfl, hps, hpA⟩ : ∃ pr xs, vr = .ref pr ∧ SqT K H pr xs ∧ DpAll K H xs (rws.map Tc.pairD) := by
      cases hvr with
      | tup hs hA => exact ⟨_, _, rfl, hs, hA⟩
    have xl : xs.length = rws.length := by rw [dps_len hpA, List.length_map]
    refine s_seq ⟨v, rfl, .ref l, rfl, .int (low : Int), rfl, .int (high : Int), rfl, .ref sp, rfl, .ref pr, rfl, v, .ref pr, rs, rws, l, sp, ks, ds, a, b, low, high, rfl, hd, hk, h64, hl, lo1, hi1, hsp, a0, a1, b0, b1, hvr, rl, fun p H1 np x1 hp1 => g_name ?_⟩
    dsimp only
    refine et_test (ev_op (ev_len (ev_var rfl) (sq_of (K := K) hp1)) (ev_lenT (ev_var rfl) (Evl.ex_t x1 hps)) rv_I0) H1 (Ex.refl H1) _ fun H2 x2 => ite2 (fun c => ?_) (fun c => ?_)
    · have c1 := of_decide_eq_true c
      rw [List.length_map] at c1
      exact qs (by omega) H2 (x1.trans x2)
    · have c1 : ¬ ((xs.length : Int) < ((msV (lmF (worthsAt rs ds) b high low a (wantW rws))).length : Int)) := fun z => c (decide_eq_true z)
      rw [List.length_map] at c1
      exact ev_is (ev_len (ev_var rfl) (sq_of (K := K) (x2 _ _ hp1))) (by rw [List.length_map]) H2 (Ex.refl H2) _ fun H3 x3 => qn (by omega) H3 ((x1.trans x2).trans x3)
end
end K18
/-! a comprehension that makes data, by any walk -/
namespace Tc
open PySem L2 Evl
theorem lc_dataW {K : PySem.W.Frag} {σ : L2.St} {H : Hp} {wi : TI} {J : It} {n : Nat} {G : Hp → Prop} {Y : Nat → Hp → V → Hp → Prop} (w : Walk J n G Y) {g : TG} {t : TT} {te : TE} {vs : List Nat} {Q : VK} {α : Type} {k : Nat} (zs : List α) (p : α → Bool) (h : α → PyData) (B : α → L2.St → Hp → Prop) (hw : ∀ R : It → Hp → Prop, R J H → wi σ H R) (hn : zs.length = n) (few : n ≤ 40000)
    (hG : ∀ H', Ex H H' → G H')
    (hb : ∀ i z x H1 H2, zs[i]? = some z → Ex H H1 → Y i H1 x H2 → Ex H1 H2 ∧ ∀ R : L2.St → Hp → Prop, (∀ σ2, wipe σ2 vs = wipe σ vs → B z σ2 H2 → R σ2 H2) → g x (wipe σ vs) H2 R)
    (ht : ∀ z σ2 H2, z ∈ zs → Ex H H2 → B z σ2 H2 → EvT t σ2 H2 (p z))
    (he : ∀ z σ2 H2 H3, z ∈ zs → Ex H H2 → B z σ2 H2 → Ex H2 H3 → p z = true → ∀ Q : VK, (∀ y H4, Ex H3 H4 → Dp K H4 y (h z) → Q y H4) → te σ2 H3 Q)
    (nlh : ∀ z ∈ zs, nl k (h z) = true)
    (hd : ∀ D acc H', H D = none → Ex H H' → H' D = some (.lst acc) → DpAll K H' acc ((zs.filter p).map h) → Q (.ref D) H') : tLc wi g t te vs σ H Q := hw _ fun D hD => by
  refine lc_it w (fun i H' => Ex H H' ∧ ∃ acc, H' D = some (.lst acc) ∧ acc.length ≤ i ∧ DpAll K H' acc (((zs.take i).filter p).map h)) ⟨Ex.new hD, [], upd_same, Nat.le_refl _, .nil⟩ (fun i H' _ q => hG H' q.1) (fun i x H' G' hi q y => ?_) (fun H' q => ?_)
  · obtain ⟨xH, acc, hacc, la, dacc⟩ := q
    obtain ⟨z, hz⟩ : ∃ z, zs[i]? = some z := ⟨_, List.getElem?_eq_getElem (by omega)⟩
    have mz : z ∈ zs := List.mem_of_getElem? hz
    have tk : zs.take (i + 1) = zs.take i ++ [z] := by
      rw [List.take_succ, hz]
      rfl
    obtain ⟨xG, bind⟩ := hb i z x H' G' hz xH y
    refine bind _ fun σ2 hw hB => ⟨hw, ?_⟩
    refine ht z σ2 G' mz (xH.trans xG) hB G' (Ex.refl G') _ fun H3 x3 => ?_
    cases e : p z with
    | true =>
      rw [if_pos rfl]
      refine he z σ2 G' H3 mz (xH.trans xG) hB x3 e _ fun y H4 x4 dy => ⟨acc, x4 _ _ (x3 _ _ (xG _ _ hacc)), sz_lt (by omega), ?_, acc ++ [y], upd_same, by rw [List.length_append]; simp only [List.length_cons, List.length_nil]; omega, ?_⟩
      · intro b o hb
        rw [upd_ne (ne_of_none hb hD)]
        exact x4 _ _ (x3 _ _ (xG _ _ (xH _ _ hb)))
      · rw [tk, List.filter_append, List.filter_cons_of_pos e, List.filter_nil, List.map_append]
        refine (kt_put (x4 _ _ (x3 _ _ (xG _ _ hacc)))).dps (n := k) (fun u mu => ?_) (dps_app (dps_same ((xG.trans x3).trans x4) _ _ dacc) (.cons dy .nil))
        rcases List.mem_append.mp mu with mu | mu
        · obtain ⟨u', mu', rfl⟩ := List.mem_map.mp mu
          exact nlh u' (List.mem_of_mem_take ((List.mem_filter.mp mu').1))
        · rw [List.mem_singleton.mp mu]
          exact nlh z mz
    | false =>
      rw [if_neg Bool.false_ne_true]
      refine ⟨(xH.trans xG).trans x3, acc, x3 _ _ (xG _ _ hacc), Nat.le_succ_of_le la, ?_⟩
      rw [tk, List.filter_append, List.filter_cons_of_neg (by rw [e]; exact Bool.false_ne_true), List.filter_nil, List.append_nil]
      exact dps_same (xG.trans x3) _ _ dacc
  · obtain ⟨xH, acc, hacc, la, dacc⟩ := q
    rw [← hn, List.take_length] at dacc
    exact hd D acc H' hD xH hacc dacc
end Tc
namespace K18
open PySem L2 L2H PyProof.Rows Tc Evl
abbrev sMk : Stmt := topS 73
theorem scMk : FnScope ["log", "number", "marks", "lows", "highs", "at", "entry", "word"] ["log", "number"] (defScope sMk) := ⟨rfl, rfl, rfl, by decide +kernel, rfl, by decide +kernel, by decide +kernel⟩
/-- the number of a mark -/
def mkOf : PyData → Option Int
  | .tuple [.str _, .int _, .int n] => some n
  | _ => none
def wordOf : PyData → Str
  | .tuple (.str s :: _) => s
  | _ => ""
def pM (n : Int) (z : PyData × Nat) : Bool := decide (mkOf z.1 = some n)
def mkD (z : Int × Str) : PyData := .tuple [.int z.1, .str z.2]
def hM (z : PyData × Nat) : PyData := mkD ((z.2 : Int), wordOf z.1)
theorem zip_no {n : Int} : ∀ (ds : List PyData) (k : Nat), (∀ d ∈ ds, mkOf d ≠ some n) → (ds.zipIdx k).filter (pM n) = []
  | [], _, _ => rfl
  | d :: ds, k, h => by
    rw [List.zipIdx_cons, List.filter_cons_of_neg, zip_no ds (k + 1) fun e m => h e (List.mem_cons_of_mem _ m)]
    show ¬ decide (mkOf d = some n) = true
    rw [decide_eq_false (h d List.mem_cons_self)]
    exact Bool.false_ne_true
def loD (o n : Int) : PyData := .tuple [.str "low", .int o, .int n]
def hiD (o n : Int) : PyData := .tuple [.str "high", .int o, .int n]
theorem zip_two {n o1 o2 : Int} {pre post : List PyData} (h1 : ∀ d ∈ pre, mkOf d ≠ some n) (h2 : ∀ d ∈ post, mkOf d ≠ some n) :
    (((pre ++ (loD o1 n :: (post ++ [hiD o2 n]))).zipIdx).filter (pM n)).map hM = [((pre.length : Int), ("low" : Str)), (((pre.length + 1 + post.length : Nat) : Int), ("high" : Str))].map mkD := by
  have y1 : pM n (loD o1 n, 0 + pre.length) = true := decide_eq_true rfl
  have y2 : pM n (hiD o2 n, 0 + pre.length + 1 + post.length) = true := decide_eq_true rfl
  rw [List.zipIdx_append, List.filter_append, zip_no pre 0 h1, List.nil_append, List.zipIdx_cons, List.filter_cons_of_pos y1, List.zipIdx_append, List.filter_append, zip_no post _ h2, List.nil_append, List.zipIdx_cons, List.filter_cons_of_pos y2, List.zipIdx_nil, List.filter_nil]
  simp only [List.map_cons, List.map_nil, Nat.zero_add]
  rfl
def spMk (K : PySem.W.Frag) : Sp := fun vs H Q _ => ∃ (l : Addr) (us : List V) (pre post : List PyData) (n o1 o2 : Int), vs = [.ref l, .int n] ∧ SqL K H l us ∧ DpAll K H us (pre ++ (loD o1 n :: (post ++ [hiD o2 n]))) ∧ (∀ d ∈ pre ++ (loD o1 n :: (post ++ [hiD o2 n])), goodEn allKs d = true) ∧ us.length ≤ 10000 ∧ (∀ d ∈ pre, mkOf d ≠ some n) ∧ (∀ d ∈ post, mkOf d ≠ some n) ∧
  ∀ t H', Ex H H' → H' t = some (.tup [.int ((pre.length : Int) + 1), .int ((pre.length + 1 + post.length : Nat) : Int)]) → Q (.ref t) H'
theorem lc_word {K : PySem.W.Frag} {σ : L2.St} {H : Hp} {m : Addr} {us : List V} {zs : List (Int × Str)} {Q : VK} {w : Str} {y3 y4 y6 : Option V} {v0 v1 : V} (hm : H m = some (.lst us)) (dm : DpAll K H us (zs.map mkD)) (few : us.length ≤ 40000) (h2 : σ[2]? = some (some (.ref m))) (hs : wipe σ [5, 7] = [some v0, some v1, some (.ref m), y3, y4, none, y6, none])
    (hd : ∀ D acc H', Ex H H' → H' D = some (.lst acc) → acc = (zs.filter fun z => decide (z.2 = w)).map (fun z => V.int z.1) → Q (.ref D) H') : tLc (iList K (tVar 2)) (gTup K 2 (gCons (gName 5) (gCons (gName 7) gNil))) (tTest (tOp rEq (tVar 7) (tC (.str w)))) (tVar 5) [5, 7] σ H Q := by
  have zl : zs.length = us.length := by rw [dps_len dm, List.length_map]
  refine lc_dataW (K := K) (k := 0) (walk_list (K := K) (a := m) (xs := us)) zs (fun z => decide (z.2 = w)) (fun z => .int z.1) (fun z σ2 _ => σ2 = [some v0, some v1, some (.ref m), y3, y4, some (.int z.1), y6, some (.str z.2)]) (fun R r => ⟨.ref m, h2, m, rfl, ⟨us, sq_of hm⟩, r⟩) zl few (fun H' x => sq_of (x _ _ hm)) (fun i z x H1 H2 hz x1 y => ?_) (fun z σ2 H2 _ _ e => ?_) (fun z σ2 H2 H3 _ _ e x3 _ Q q => ?_) (fun z _ => rfl) (fun D acc H' _ x hacc da => hd D acc H' x hacc ?_)
  · obtain ⟨rfl, hx⟩ := y
    refine ⟨Ex.refl _, fun R r => ?_⟩
    obtain ⟨d, hd', dx⟩ := dps_at dm hx
    rw [List.getElem?_map, hz] at hd'
    cases hd'
    obtain ⟨ta, u0, u1, rfl, ht, e0, e1⟩ := dpt2 (dp_same x1 _ _ dx)
    cases e0
    cases e1
    rw [hs]
    refine ⟨ta, _, rfl, ht, rfl, _, _, rfl, _, _, rfl, rfl, r _ ?_ rfl⟩
    rw [hs]
    rfl
  · subst e
    exact et_test (ev_is (ev_op (ev_var rfl) ev_c (rv_eq rfl)) (by simp))
  · subst e
    exact ⟨_, rfl, q _ H3 (Ex.refl H3) (.int _)⟩
  · have key : ∀ (l : List (Int × Str)) (vs : List V), DpAll K H' vs (l.map fun z => PyData.int z.1) → vs = l.map fun z => V.int z.1 := by
      intro l
      induction l with
      | nil => intro vs h; cases h; rfl
      | cons a l ih =>
        intro vs h
        obtain ⟨u, r, rfl, h0, h1⟩ := dps_cons (show DpAll K H' vs (_ :: _) from h)
        cases h0
        rw [ih _ h1]
        rfl
    exact key _ _ da
section
variable {P : Program} {w : World} {K : PySem.W.Frag} {mg : Str → Option Value} {base : Heap}
set_option maxHeartbeats 2000000 in
theorem ok_mk {f : Addr} {fd : FuncData} {k : Nat} (F : Fun K "_law_marks_at" "_law_marks_at" sMk f fd) (N : Names mg) : FnOk P w K mg base CX0 (k + 1) f fd ["log", "number"] (spMk K) := by
  refine F.ok scMk (fun vs H Q E h => ?_) (fun cdv A outer s H vs Q E hr h => ?_)
  · obtain ⟨l, us, pre, post, n, o1, o2, rfl, _⟩ := h
    rfl
  · obtain ⟨l, us, pre, post, n, o1, o2, rfl, hl, hA, hg, few, p1, p2, q⟩ := h
    refine ⟨_, (pss_cons (ps_setLc (i := 2) (own := [("at", 5), ("entry", 6)]) (g := gTup K 2 (gCons (gName 5) (gCons (gName 6) gNil))) (tt := (tAnd (tTest (tOp rNe (tOp (rIxT K) (tVar 6) (tC (.int 0))) (tC (.str "group")))) (tTest (tOp rEq (tOp (rIxT K) (tVar 6) (tC (.int 2))) (tVar 1))))) (te := (tTup (tCons (tVar 5) (tCons (tOp (rIxT K) (tVar 6) (tC (.int 0))) tNil)))) rfl scMk.nd rfl rfl (sw_true rfl rfl rfl (by decide +kernel)) (pi_enum (by rfl) N.enumerate (pa_cons (pv 0) pa_nil)) (blkOk_by (N := ["log", "number", "marks", "lows", "highs", "at", "entry", "word"]) (sc := defScope sMk) (by decide +kernel)) (fun _ _ _ _ _ => pg_tup rfl (pgs_cons (pg_name (i := 5) scMk.nd rfl (Or.inl rfl)) (pgs_cons (pg_name (i := 6) scMk.nd rfl (Or.inl rfl)) pgs_nil))) (fun _ _ _ _ _ => pts_one (PW.pt (pw_and (pt_cmpR op_ne (pe_ix ix_tup (pv 6) pe_int (fun _ _ => rfl)) pe_str (nomark _)) (pw_and1 (pt_cmpR op_eq (pe_ix ix_tup (pv 6) pe_int (fun _ _ => rfl)) (pv 1) (nomark _)))))) (fun _ _ _ _ _ => (pe_tup (pa_cons (pv 5) (pa_cons (pe_ix ix_tup (pv 6) pe_int (fun _ _ => rfl)) pa_nil)))))
      (pss_cons (ps_setLc (i := 3) (own := [("at", 5), ("word", 7)]) (g := gTup K 2 (gCons (gName 5) (gCons (gName 7) gNil))) (tt := (tTest (tOp rEq (tVar 7) (tC (.str "low"))))) (te := (tVar 5)) rfl scMk.nd rfl rfl (sw_true rfl rfl rfl (by decide +kernel)) (pi_list (pv 2)) (blkOk_by (N := ["log", "number", "marks", "lows", "highs", "at", "entry", "word"]) (sc := defScope sMk) (by decide +kernel)) (fun _ _ _ _ _ => pg_tup rfl (pgs_cons (pg_name (i := 5) scMk.nd rfl (Or.inl rfl)) (pgs_cons (pg_name (i := 7) scMk.nd rfl (Or.inl rfl)) pgs_nil))) (fun _ _ _ _ _ => pts_one (pt_cmpR op_eq (pv 7) pe_str (nomark _))) (fun _ _ _ _ _ => (pv 5)))
      (pss_cons (ps_setLc (i := 4) (own := [("at", 5), ("word", 7)]) (g := gTup K 2 (gCons (gName 5) (gCons (gName 7) gNil))) (tt := (tTest (tOp rEq (tVar 7) (tC (.str "high"))))) (te := (tVar 5)) rfl scMk.nd rfl rfl (sw_true rfl rfl rfl (by decide +kernel)) (pi_list (pv 2)) (blkOk_by (N := ["log", "number", "marks", "lows", "highs", "at", "entry", "word"]) (sc := defScope sMk) (by decide +kernel)) (fun _ _ _ _ _ => pg_tup rfl (pgs_cons (pg_name (i := 5) scMk.nd rfl (Or.inl rfl)) (pgs_cons (pg_name (i := 7) scMk.nd rfl (Or.inl rfl)) pgs_nil))) (fun _ _ _ _ _ => pts_one (pt_cmpR op_eq (pv 7) pe_str (nomark _))) (fun _ _ _ _ _ => (pv 5)))
      (pss_one (ps_ret (pe_ifExp (PW.pt (pw_and (pt_cmpR op_eq (pe_callB call_len_seq (by rfl) N.len PySem.boot_len (pa_cons (pv 3) pa_nil)) pe_int (nomark _)) (pw_and1 (pt_cmpR op_eq (pe_callB call_len_seq (by rfl) N.len PySem.boot_len (pa_cons (pv 4) pa_nil)) pe_int (nomark _))))) (pe_tup (pa_cons (pe_op op_add (pe_ix ix_list (pv 3) pe_int (fun _ _ => rfl)) pe_int) (pa_cons (pe_ix ix_list (pv 4) pe_int (fun _ _ => rfl)) pa_nil))) (pe_tup (pa_cons pe_int (pa_cons pe_int pa_nil))))))))), ?_⟩
    have ul := dps_len hA
    refine s_seq (t_asg ?_)
    refine lc_dataW (K := K) (k := 1) (walk_enum (K := K) (a := l) (xs := us)) (pre ++ (loD o1 n :: (post ++ [hiD o2 n]))).zipIdx (pM n) hM (fun z σ2 H2 => ∃ x, Dp K H2 x z.1 ∧ σ2 = [some (.ref l), some (.int n), none, none, none, some (.int (z.2 : Int)), some x, none]) (fun R r => ⟨.ref l, rfl, l, us, rfl, hl, r⟩) (by rw [List.length_zipIdx, ul]) (by omega) (fun H' x => Evl.ex_l x hl) (fun i z x H1 H2 hz x1 y => ?_) (fun z σ2 H2 mz xH e => ?_) (fun z σ2 H2 H3 mz xH e x3 _ Q q' => ?_) (fun z _ => rfl) (fun D acc H1 _ x1 hacc da => g_name ?_)
    · obtain ⟨T, u, v, rfl, nT, rfl, e1, e2⟩ := y
      cases e1
      refine ⟨Ex.new nT, fun R r => ?_⟩
      obtain ⟨d, hd, dx⟩ := dps_at hA e2
      rw [List.getElem?_zipIdx, hd] at hz
      cases hz
      refine ⟨T, _, rfl, st_of upd_same, rfl, _, _, rfl, _, _, rfl, rfl, r _ rfl ⟨v, dp_same (x1.trans (Ex.new nT)) _ _ dx, ?_⟩⟩
      rw [Nat.zero_add]
      rfl
    · obtain ⟨x, dx, rfl⟩ := e
      rcases en_kind (hg z.1 (List.fst_mem_of_mem_zipIdx mz)) with ⟨cs, hz, _⟩ | ⟨s, i', j', hz, hns⟩
      · rw [hz] at dx
        obtain ⟨pa, u0, u1, rfl, ht, h0, h1⟩ := dpt2 dx
        cases h0
        refine et_is (et_and (a := false) (b := false) (et_is (et_test (ev_op (ev_ix0 (ev_var rfl) ht) ev_c (rv_ne rfl))) (by simp)) fun e => by cases e) ?_
        unfold pM
        rw [hz]
        rfl
      · rw [hz] at dx
        obtain ⟨pa, u0, u1, u2, rfl, ht, h0, h1, h2⟩ := dpt3 dx
        cases h0
        cases h1
        cases h2
        refine et_is (et_and (a := true) (et_is (et_test (ev_op (ev_ix0 (ev_var rfl) ht) ev_c (rv_ne rfl))) (by simp [hns])) fun _ => et_test (ev_is (ev_op (ev_ix2 (ev_var rfl) ht) (ev_var rfl) (rv_eq rfl)) rfl)) ?_
        unfold pM
        rw [hz]
        simp [mkOf]
    · obtain ⟨x, dx, rfl⟩ := e
      have go : ∀ (s : Str) (t : Addr) (xs : List V), x = .ref t → SqT K H2 t (.str s :: xs) → wordOf z.1 = s → (tTup (tCons (tVar 5) (tCons (tOp (rIxT K) (tVar 6) (tC (.int 0))) tNil))) [some (.ref l), some (.int n), none, none, none, some (.int (z.2 : Int)), some x, none] H3 Q := fun s t xs hx ht hw => by
        subst hx
        refine (ea_cons (ev_var rfl) (ea_cons (ev_ix0 (ev_var rfl) (Evl.ex_t x3 ht)) ea_nil)) H3 (Ex.refl H3) _ fun H4 x4 => ⟨sz_of (by simp), fun t1 n1 => q' _ _ (x4.trans (Ex.new n1)) ?_⟩
        unfold hM mkD
        rw [hw]
        exact .tup (st_of upd_same) (.cons (.int _) (.cons (.str _) .nil))
      rcases en_kind (hg z.1 (List.fst_mem_of_mem_zipIdx mz)) with ⟨cs, hz, _⟩ | ⟨s, i', j', hz, hns⟩
      · rw [hz] at dx
        obtain ⟨pa, u0, u1, rfl, ht, h0, h1⟩ := dpt2 dx
        cases h0
        exact go _ _ _ rfl ht (by rw [hz]; rfl)
      · rw [hz] at dx
        obtain ⟨pa, u0, u1, u2, rfl, ht, h0, h1, h2⟩ := dpt3 dx
        cases h0
        exact go _ _ _ rfl ht (by rw [hz]; rfl)
    rw [zip_two p1 p2] at da
    have al : acc.length = 2 := by rw [dps_len da]; rfl
    try dsimp only
    refine s_seq (t_asg (lc_word (K := K) hacc da (by omega) rfl rfl fun D2 acc2 H2 x2 hacc2 e2 => g_name ?_))
    try dsimp only
    refine s_seq (t_asg (lc_word (K := K) (x2 _ _ hacc) (dps_same x2 _ _ da) (by omega) rfl rfl fun D3 acc3 H3 x3 hacc3 e3 => g_name ?_))
    try dsimp only
    have f2 : acc2 = [V.int (pre.length : Int)] := e2
    have f3 : acc3 = [V.int ((pre.length + 1 + post.length : Nat) : Int)] := e3
    subst f2 f3
    have h2 : SqL K H3 D2 [V.int (pre.length : Int)] := sq_of (x3 _ _ hacc2)
    have h3 : SqL K H3 D3 [V.int ((pre.length + 1 + post.length : Nat) : Int)] := sq_of hacc3
    refine (et_is (et_and (a := true) (et_is (et_test (ev_op (ev_len (ev_var rfl) h2) ev_c (rv_eq rfl))) rfl) fun _ => et_is (et_test (ev_op (ev_len (ev_var rfl) h3) ev_c (rv_eq rfl))) rfl) (b := true) rfl) H3 (Ex.refl H3) _ fun H4 x4 => ?_
    rw [if_pos rfl]
    refine (ea_cons (ev_op (ev_lx (j := 0) (ev_var rfl) ev_c h2 rfl) ev_c rv_add) (ea_cons (ev_lx (j := 0) (ev_var rfl) ev_c h3 rfl) ea_nil)) H4 x4 _ fun H5 x5 => ⟨sz_of (by simp), fun t nt => q t _ (((((x1.trans x2).trans x3).trans x4).trans x5).trans (Ex.new nt)) upd_same⟩
end
end K18
namespace K18
open PySem L2 L2H PyProof.Rows Tc Evl
/-- a step is drawn -/
def spStep (K : PySem.W.Frag) (C R : Addr) : Sp := fun vs H Q _ => ∃ (b p l : Addr) (ks : List Int) (m : HM) (X : Addr → Prop), vs = [.ref b, .ref p, .ref l] ∧ Bag H b ∧ KeysAt b H l ks ∧ HsM K C R H p m X ∧ ¬ X b ∧ HFew m ∧
  ∀ (sp : Stp) (st : Addr) (us : List V) (H' : Hp), Tc.Fr b H H' → SqT K H' st us → DpAll K H' us (stD sp) → stOk sp → (∀ d ∈ stD sp, nl 3 d = true) → Q (.ref st) H'
theorem t_op {r : R2} {ta tb : TE} {σ : L2.St} {H : Hp} {Q : VK} (h : ta σ H fun x H1 => tb σ H1 fun y H2 => r x y H2 Q) : tOp r ta tb σ H Q := h
theorem nl_int {n : Nat} {i : Int} : nl n (.int i) = true := by cases n <;> rfl
theorem nl_str {n : Nat} {i : Str} : nl n (.str i) = true := by cases n <;> rfl
theorem reps {xs : List Int} : (List.replicate (3 : Int).toNat (xs.map V.int)).flatten ++ [V.int 0, .int 1, .int 99, .int (-1)] = ((xs ++ (xs ++ (xs ++ []))) ++ [0, 1, 99, -1]).map V.int := by
  simp only [List.map_append, List.map_cons, List.map_nil]
  rfl
section
variable {P : Program} {w : World} {K : PySem.W.Frag} {mg : Str → Option Value} {base : Heap}
abbrev sStep : Stmt := topS 72
theorem scStep : FnScope ["bag", "house", "keys", "lives", "numbers", "first", "end", "place", "way", "number", "life", "some", "pair", "row"] ["bag", "house", "keys"] (defScope sStep) := ⟨rfl, rfl, rfl, by decide +kernel, rfl, by decide +kernel, by decide +kernel⟩
set_option maxHeartbeats 2000000 in
theorem ok_step {f C R : Addr} {fd : FuncData} {kT kOf kCh kSt kHs kRs kPl k : Nat} (F : Fun K "_law_house_step" "_law_house_step" sStep f fd) (N : Names mg) (T : HTx K mg C) (dT : Own P w K mg base "_law_take" ["bag", "man1"] kT spTake) (hT : kT ≤ k) (dOf : Own P w K mg base "_law_of" ["bag", "some"] kOf spOfI) (hOf : kOf ≤ k) (dCh : Own P w K mg base "_law_changes" ["bag", "keys", "most"] kCh (spChsL K)) (hCh : kCh ≤ k) (dSt : Own P w K mg base "_law_stretch" ["bag", "keys"] kSt (spStr K)) (hSt : kSt ≤ k) (dHs : MethX P w K mg base C "holds" ["self"] kHs (spHos K C R)) (hHs : kHs ≤ k) (dRs : MethX P w K mg base C "readings" ["self"] kRs (spRds K C R)) (hRs : kRs ≤ k) (dPl : MethX P w K mg base C "places" ["self"] kPl (spPls K C R)) (hPl : kPl ≤ k) : FnOk P w K mg base CX0 (k + 1) f fd ["bag", "house", "keys"] (spStep K C R) := by
  refine F.ok scStep (fun vs H Q E h => ?_) (fun cdv A outer s H vs Q E hr h => ?_)
  · obtain ⟨b, p, l, ks, m, X, rfl, _⟩ := h
    rfl
  · obtain ⟨b, p, l, ks, m, X, rfl, hB, hk, S, nb, few, q⟩ := h
    refine ⟨_, (pss_cons (ps_set (i := 3) scStep.nd rfl (.inl rfl) (pe_op op_cat (pe_lc (own := [("pair", 12)]) (g := gName 12) (tt := tYes) (te := tOp (rIxT K) (tVar 12) (tC (.int 0))) rfl scStep.nd (pi_list (pe_methX0 dHs none_out hr hHs T.cl (pv 1))) (blkOk_by (N := ["bag", "house", "keys", "lives", "numbers", "first", "end", "place", "way", "number", "life", "some", "pair", "row"]) (sc := defScope sStep) (by decide +kernel)) (fun _ _ _ _ _ => pg_name (i := 12) scStep.nd rfl (Or.inl rfl)) (fun _ _ _ _ _ => pts_nil) (fun _ _ _ _ _ => (pe_ix ix_tup (pv 12) pe_int (fun _ _ => rfl)))) (pe_lst (pa_cons pe_int (pa_cons pe_int (pa_cons pe_int (pa_cons pe_int pa_nil)))))))
      (pss_cons (ps_set (i := 4) scStep.nd rfl (.inl rfl) (pe_op op_cat (pe_op op_rep (pe_lc (own := [("row", 13)]) (g := gName 13) (tt := tYes) (te := tOp (rIxT K) (tVar 13) (tC (.int 0))) rfl scStep.nd (pi_list (pe_methX0 dRs none_out hr hRs T.cl (pv 1))) (blkOk_by (N := ["bag", "house", "keys", "lives", "numbers", "first", "end", "place", "way", "number", "life", "some", "pair", "row"]) (sc := defScope sStep) (by decide +kernel)) (fun _ _ _ _ _ => pg_name (i := 13) scStep.nd rfl (Or.inl rfl)) (fun _ _ _ _ _ => pts_nil) (fun _ _ _ _ _ => (pe_ix ix_tup (pv 13) pe_int (fun _ _ => rfl)))) pe_int) (pe_lst (pa_cons pe_int (pa_cons pe_int (pa_cons pe_int (pa_cons (pe_un un_neg pe_int) pa_nil)))))))
      (pss_cons (ps_asg (pe_methX0 dPl none_out hr hPl T.cl (pv 1)) (pg_tup rfl (pgs_cons (pg_name (i := 5) scStep.nd rfl (.inl rfl)) (pgs_cons (pg_name (i := 6) scStep.nd rfl (.inl rfl)) pgs_nil))))
      (pss_cons (ps_set (i := 7) scStep.nd rfl (.inl rfl) (pe_ix ix_list (pe_lst (pa_cons (pe_op op_add (pv 5) (pe_own dT hr hT (by rfl) (pa_cons (pv 0) (pa_cons (pe_op op_add (pe_op op_sub (pv 6) (pv 5)) pe_int) pa_nil)))) (pa_cons (pe_op op_sub (pv 5) pe_int) (pa_cons (pe_op op_add (pv 6) pe_int) (pa_cons (pv 6) pa_nil))))) (pe_own dT hr hT (by rfl) (pa_cons (pv 0) (pa_cons pe_int pa_nil))) (fun _ _ => rfl)))
      (pss_cons (ps_set (i := 8) scStep.nd rfl (.inl rfl) (pe_own dT hr hT (by rfl) (pa_cons (pv 0) (pa_cons pe_int pa_nil))))
      (pss_cons (ps_if (pt_cmpR op_lt (pv 8) pe_int (nomark _)) (pss_one (ps_ret (pe_tup (pa_cons pe_str (pa_cons (pe_own dCh hr hCh (by rfl) (pa_cons (pv 0) (pa_cons (pv 2) (pa_cons pe_int pa_nil)))) pa_nil))))) pss_nil)
      (pss_cons (ps_if (pt_cmpR op_eq (pv 8) pe_int (nomark _)) (pss_one (ps_ret (pe_tup (pa_cons pe_str pa_nil)))) pss_nil)
      (pss_cons (ps_if (pt_cmpR op_lt (pv 8) pe_int (nomark _)) (pss_one (ps_ret (pe_op op_catT (pe_tup (pa_cons pe_str (pa_cons (pe_own dOf hr hOf (by rfl) (pa_cons (pv 0) (pa_cons (pv 3) pa_nil))) pa_nil))) (pe_own dSt hr hSt (by rfl) (pa_cons (pv 0) (pa_cons (pv 2) pa_nil)))))) pss_nil)
      (pss_cons (ps_set (i := 9) scStep.nd rfl (.inl rfl) (pe_own dOf hr hOf (by rfl) (pa_cons (pv 0) (pa_cons (pv 4) pa_nil))))
      (pss_cons (ps_if (pt_cmpR op_lt (pv 8) pe_int (nomark _)) (pss_one (ps_ret (pe_tup (pa_cons pe_str (pa_cons (pv 9) (pa_cons (pe_ix ix_list (pe_lst (pa_cons pe_int (pa_cons pe_int (pa_cons pe_int (pa_cons pe_int (pa_cons pe_int pa_nil)))))) (pe_own dT hr hT (by rfl) (pa_cons (pv 0) (pa_cons pe_int pa_nil))) (fun _ _ => rfl)) pa_nil)))))) pss_nil)
      (pss_cons (ps_set (i := 10) scStep.nd rfl (.inl rfl) (pe_own dOf hr hOf (by rfl) (pa_cons (pv 0) (pa_cons (pv 3) pa_nil))))
      (pss_cons (ps_set (i := 11) scStep.nd rfl (.inl rfl) (pe_lst (pa_cons (pe_tup (pa_cons pe_str (pa_cons (pv 9) pa_nil))) (pa_cons (pe_tup (pa_cons pe_str (pa_cons (pv 9) pa_nil))) (pa_cons (pe_tup (pa_cons pe_str (pa_cons (pv 9) pa_nil))) (pa_cons (pe_tup (pa_cons pe_str (pa_cons (pv 10) (pa_cons (pv 7) pa_nil)))) (pa_cons (pe_tup (pa_cons pe_str (pa_cons (pv 10) pa_nil))) pa_nil)))))))
      (pss_one (ps_ret (pe_ix ix_list (pe_op op_cat (pv 11) (pe_lst (pa_cons (pe_tup (pa_cons pe_str (pa_cons (pv 7) pa_nil))) pa_nil))) (pe_op op_sub (pv 8) pe_int) (fun _ _ => rfl)))))))))))))))), ?_⟩
    have ll1 := (hs_liv S).1
    have ll2 := (hs_run S).1
    have fl := few.lg
    have fb := few.bg
    have fg := few.log
    have ff := few.fk
    have hol := ho_len m.liv
    -- lives, numbers
    refine s_seq (t_asg ?_)
    refine lc_hos (K := K) (C := C) (R := R) (i := 1) (p := p) (m := m) (X := X) rfl S few.lg (fun x => rfl) (fun x => rfl) fun L1 H1 n1 x1 h1 => ?_
    refine ⟨sz_of (by simp), fun L2 n2 => ?_⟩
    refine ⟨L1, L2, _, _, rfl, rfl, (Ex.new n2) _ _ h1, upd_same, sz_of (by rw [List.length_map, List.length_map]; simp only [List.length_cons, List.length_nil]; omega), fun L3 n3 => g_name ?_⟩
    dsimp only
    have e3 : ((hoD m.liv).map keyOf).map V.int ++ [V.int 1, .int 2, .int 3, .int 9] = ((hoD m.liv).map keyOf ++ [1, 2, 3, 9]).map V.int := by rw [List.map_append]; rfl
    rw [e3]
    have y3 := (x1.trans (Ex.new n2 (o := .lst [V.int 1, .int 2, .int 3, .int 9]))).trans (Ex.new n3 (o := .lst (((hoD m.liv).map keyOf ++ [1, 2, 3, 9]).map V.int)))
    have h3 : upd (upd H1 L2 (.lst [V.int 1, .int 2, .int 3, .int 9])) L3 (.lst (((hoD m.liv).map keyOf ++ [1, 2, 3, 9]).map V.int)) L3 = some (.lst (((hoD m.liv).map keyOf ++ [1, 2, 3, 9]).map V.int)) := upd_same
    have nL3 : L3 ≠ b := (Fr.ex hB (x1.trans (Ex.new n2 (o := .lst [V.int 1, .int 2, .int 3, .int 9])))).bag.ne n3
    generalize upd (upd H1 L2 (.lst [V.int 1, .int 2, .int 3, .int 9])) L3 (.lst (((hoD m.liv).map keyOf ++ [1, 2, 3, 9]).map V.int)) = H3 at y3 h3 ⊢
    have lvb : ∀ i ∈ (hoD m.liv).map keyOf ++ [1, 2, 3, 9], -2 ≤ i ∧ i ≤ (1000000 : Int) := fun i mi => by
      rcases List.mem_append.mp mi with mi | mi
      · obtain ⟨d, md, rfl⟩ := List.mem_map.mp mi
        obtain ⟨r, mr, hr⟩ := List.mem_filterMap.mp md
        have bb := (hs_liv S).2 r mr
        cases z : r.2 with
        | none => rw [z] at hr; cases hr
        | some y => rw [z] at hr; cases hr; exact ⟨by show -2 ≤ r.1; omega, by show r.1 ≤ 1000000; omega⟩
      · simp only [List.mem_cons, List.not_mem_nil, or_false] at mi
        omega
    have lvl : 0 < ((hoD m.liv).map keyOf ++ [1, 2, 3, 9]).length ∧ ((hoD m.liv).map keyOf ++ [1, 2, 3, 9]).length ≤ 100000 := by
      rw [List.length_append, List.length_map]
      simp only [List.length_cons, List.length_nil]
      omega
    generalize (hoD m.liv).map keyOf ++ [1, 2, 3, 9] = lv at h3 lvb lvl ⊢
    refine s_seq (t_asg (t_op (t_op ?_)))
    refine lc_rds (K := K) (C := C) (R := R) (i := 1) (p := p) (m := m) (X := X) (j := 13) (vs := [13]) ?c0 (S.ex y3) few.bg ?c1 ?c2 fun L4 H4 n4 x4 h4 => ?c3
    case c0 => rfl
    case c1 => exact fun x => rfl
    case c2 => exact fun x => rfl
    refine ⟨L4, 3, _, rfl, rfl, h4, by decide, by decide, sz_of (by rw [List.length_map, List.length_map, List.length_map]; show m.run.length * 3 ≤ 100000; omega), fun L5 n5 => ?_⟩
    refine ⟨1, rfl, sz_of (by simp), fun L6 n6 => ?_⟩
    have nbl : (((m.run.map rdD).map keyOf ++ ((m.run.map rdD).map keyOf ++ ((m.run.map rdD).map keyOf ++ []))) ++ [0, 1, 99, -1]).length ≤ 100000 := by
      simp only [List.length_append, List.length_map, List.length_cons, List.length_nil]
      omega
    have nbb : ∀ i ∈ ((m.run.map rdD).map keyOf ++ ((m.run.map rdD).map keyOf ++ ((m.run.map rdD).map keyOf ++ []))) ++ [0, 1, 99, -1], -2 ≤ i ∧ i ≤ (1000000 : Int) := fun i mi => by
      have one : i ∈ (m.run.map rdD).map keyOf → -2 ≤ i ∧ i ≤ (1000000 : Int) := fun mi => by
        obtain ⟨d, md, rfl⟩ := List.mem_map.mp mi
        obtain ⟨r, mr, rfl⟩ := List.mem_map.mp md
        have bb := (hs_run S).2 r mr
        exact ⟨by show -2 ≤ r.num; omega, by show r.num ≤ 1000000; omega⟩
      simp only [List.mem_append, List.mem_cons, List.not_mem_nil, or_false] at mi
      rcases mi with (mi | mi | mi) | mi
      · exact one mi
      · exact one mi
      · exact one mi
      · omega
    refine ⟨L5, L6, _, _, rfl, rfl, (Ex.new n6) _ _ upd_same, upd_same, sz_of (by rw [← List.length_append, reps, List.length_map]; exact nbl), fun L7 n7 => g_name ?_⟩
    dsimp only
    rw [reps]
    have y7 := ((x4.trans (Ex.new n5 (o := (.lst (List.replicate (3 : Int).toNat (((m.run.map rdD).map keyOf).map V.int)).flatten)))).trans (Ex.new n6 (o := (.lst [V.int 0, .int 1, .int 99, .int (-1)])))).trans (Ex.new n7 (o := .lst ((((m.run.map rdD).map keyOf ++ ((m.run.map rdD).map keyOf ++ ((m.run.map rdD).map keyOf ++ []))) ++ [0, 1, 99, -1]).map V.int)))
    have nL7 := (Fr.ex hB (y3.trans ((x4.trans (Ex.new n5)).trans (Ex.new n6)))).bag.ne n7
    have h7 : upd (upd (upd H4 L5 (.lst (List.replicate (3 : Int).toNat (((m.run.map rdD).map keyOf).map V.int)).flatten)) L6 (.lst [V.int 0, .int 1, .int 99, .int (-1)])) L7 (.lst ((((m.run.map rdD).map keyOf ++ ((m.run.map rdD).map keyOf ++ ((m.run.map rdD).map keyOf ++ []))) ++ [0, 1, 99, -1]).map V.int)) L7 = some (.lst ((((m.run.map rdD).map keyOf ++ ((m.run.map rdD).map keyOf ++ ((m.run.map rdD).map keyOf ++ []))) ++ [0, 1, 99, -1]).map V.int)) := upd_same
    have nb0 : 0 < (((m.run.map rdD).map keyOf ++ ((m.run.map rdD).map keyOf ++ ((m.run.map rdD).map keyOf ++ []))) ++ [0, 1, 99, -1]).length := by
      rw [List.length_append]
      simp only [List.length_cons, List.length_nil]
      omega
    generalize upd (upd (upd H4 L5 (.lst (List.replicate (3 : Int).toNat (((m.run.map rdD).map keyOf).map V.int)).flatten)) L6 (.lst [V.int 0, .int 1, .int 99, .int (-1)])) L7 (.lst ((((m.run.map rdD).map keyOf ++ ((m.run.map rdD).map keyOf ++ ((m.run.map rdD).map keyOf ++ []))) ++ [0, 1, 99, -1]).map V.int)) = H7 at y7 h7 ⊢
    generalize ((m.run.map rdD).map keyOf ++ ((m.run.map rdD).map keyOf ++ ((m.run.map rdD).map keyOf ++ []))) ++ [0, 1, 99, -1] = nu at h7 nbl nbb nb0 ⊢
    have y8 := y3.trans y7
    have h3' := y7 _ _ h3
    obtain ⟨dx, fs, hp, hno⟩ := hs_ob (S.ex y8) "places" (by decide +kernel)
    refine s_seq ⟨.ref p, rfl, p, dx, fs, rfl, hp, hno, p, m, X, rfl, S.ex y8, fun t H8 ht x8 h8 => ?_⟩
    refine ⟨t, _, rfl, st_of h8, rfl, _, _, rfl, _, _, rfl, rfl, ?_⟩
    dsimp only
    have f8 := Fr.ex hB (y8.trans x8)
    have g3 := x8 _ _ h3'
    have g7 := x8 _ _ h7
    -- place
    refine s_seq (t_asg (t_op ?_))
    refine ⟨_, rfl, take_of (b := b) (m := (m.log.length : Int) + 1) f8.bag (ea_cons (ev_var rfl) (ea_cons (ev_is (ev_op (ev_op (ev_var rfl) (ev_var rfl) rv_sub) ev_c rv_add) (by congr 1; omega)) ea_nil)) (by omega) (by omega) fun r1 H9 f9 a1 a2 => ⟨_, _, rfl, rfl, _, rfl, _, _, rfl, rfl, _, rfl, _, _, rfl, rfl, _, rfl, sz_of (by simp), fun L8 n8 => ?_⟩⟩
    have fL := Fr.new (o := .lst [V.int ((m.fk : Int) + r1), .int ((m.fk : Int) - 1), .int ((m.fk : Int) + (m.log.length : Int) + 1), .int ((m.fk : Int) + (m.log.length : Int))]) f9.bag n8
    refine take_of (b := b) (m := 4) fL.bag (ea_cons (ev_var rfl) (ea_cons ev_c ea_nil)) (by decide) (by decide) fun r2 H10 f10 a3 a4 => ?_
    have hL8 : H10 L8 = some (.lst [V.int ((m.fk : Int) + r1), .int ((m.fk : Int) - 1), .int ((m.fk : Int) + (m.log.length : Int) + 1), .int ((m.fk : Int) + (m.log.length : Int))]) := f10.at upd_same (f9.bag.ne n8)
    obtain ⟨n, rfl⟩ : ∃ n : Nat, r2 = (n : Int) := ⟨r2.toNat, by omega⟩
    obtain ⟨z, hz, zb⟩ : ∃ z : Int, [V.int ((m.fk : Int) + r1), .int ((m.fk : Int) - 1), .int ((m.fk : Int) + (m.log.length : Int) + 1), .int ((m.fk : Int) + (m.log.length : Int))][n]? = some (.int z) ∧ (-2 ≤ z ∧ z ≤ 1000000) := by
      have : n = 0 ∨ n = 1 ∨ n = 2 ∨ n = 3 := by omega
      rcases this with rfl | rfl | rfl | rfl
      · exact ⟨_, rfl, by omega, by omega⟩
      · exact ⟨_, rfl, by omega, by omega⟩
      · exact ⟨_, rfl, by omega, by omega⟩
      · exact ⟨_, rfl, by omega, by omega⟩
    refine ⟨L8, _, n, .int z, rfl, rfl, sq_of hL8, atI_nat hz, g_name ?_⟩
    dsimp only
    have fA := ((f9.trans fL).trans f10)
    -- way
    refine s_seq (t_asg (take_of (b := b) (m := 20) f10.bag (ea_cons (ev_var rfl) (ea_cons ev_c ea_nil)) (by decide) (by decide) fun wy H11 f11 w0 w1 => g_name ?_))
    dsimp only
    have fW := (f8.trans fA).trans f11
    have k3 := (fA.trans f11).at g3 nL3
    have k7 := (fA.trans f11).at g7 nL7
    refine s_seq (s_if (b := decide (wy < 6)) (et_test (ev_op (ev_var rfl) ev_c rv_I0)) (fun _ H12 x12 => ?_) fun z6 H12 x12 => s_next ?_)
    · have fB := fW.trans (Fr.ex fW.bag x12)
      refine ⟨.ref b, rfl, .ref l, rfl, b, l, ks, 6, (fun a => a = b), rfl, fB.bag, sok_one fB.bag, hk.fr fB, by decide, by decide, fun v ds H13 f13 hd hg hl => ⟨sz_of (by simp), fun t ht => ?_⟩⟩
      refine q (.change (.tuple ds)) t [.str "change", v] _ ((fB.trans f13).trans (Fr.new f13.bag ht)) (st_of upd_same) (.cons (.str _) (.cons (dp_same (Ex.new ht) _ _ (dp_same (cut_same _ _) _ _ hd)) .nil)) trivial fun d md => ?_
      rcases List.mem_cons.mp md with rfl | md
      · exact nl_str
      · rw [List.mem_singleton.mp md]
        exact nl_up _ _ (List.all_eq_true.mpr fun c m => nl_ch (hg c m))
    have fB := fW.trans (Fr.ex fW.bag x12)
    dsimp only
    refine s_seq (s_if (b := decide (V.int wy = V.int 6)) (et_test (ev_op (ev_var rfl) ev_c (rv_eq rfl))) (fun _ H13 x13 => ?_) fun z7 H13 x13 => s_next ?_)
    · refine ⟨sz_of (by simp), fun t ht => q .life t [.str "life"] _ (fB.trans (Fr.ex fB.bag (x13.trans (Ex.new ht)))) (st_of upd_same) (.cons (.str _) .nil) trivial fun d md => ?_⟩
      rw [List.mem_singleton.mp md]
      exact nl_str
    have fC := fB.trans (Fr.ex fB.bag x13)
    have m3 := (x12.trans x13) _ _ k3
    have m7 := (x12.trans x13) _ _ k7
    dsimp only
    refine s_seq (s_if (b := decide (wy < 9)) (et_test (ev_op (ev_var rfl) ev_c rv_I0)) (fun _ H14 x14 => ?_) fun z9 H14 x14 => s_next ?_)
    · have fD := fC.trans (Fr.ex fC.bag x14)
      refine ⟨.ref b, rfl, .ref L3, rfl, b, L3, lv, rfl, fD.bag, x14 _ _ m3, nL3, lvl.1, lvl.2, fun i H15 mi f15 => ⟨sz_of (by simp), fun t1 n1 => ?_⟩⟩
      have fE := Fr.new (o := .tup [.str "begin", .int i]) f15.bag n1
      refine ⟨.ref b, rfl, .ref l, rfl, b, l, ks, rfl, fE.bag, hk.fr ((fD.trans f15).trans fE), fun x y t2 H16 f16 nt2 nb2 ht2 c1 c2 c3 c4 => ?_⟩
      refine ⟨t1, t2, [.str "begin", .int i], [.int x, .int y], rfl, rfl, st_of (f16.at upd_same (f15.bag.ne n1)), st_of ht2, by simp, sz_of (by simp), (fun e => by cases e), fun _ t ht => ?_⟩
      refine q (.begin i x y) t [.str "begin", .int i, .int x, .int y] _ ((((fD.trans f15).trans fE).trans f16).trans (Fr.new f16.bag ht)) (st_of upd_same) (.cons (.str _) (.cons (.int _) (.cons (.int _) (.cons (.int _) .nil)))) (small_log (lvb i mi)) fun d md => ?_
      simp only [stD, List.mem_cons, List.not_mem_nil, or_false] at md
      rcases md with rfl | rfl | rfl | rfl
      · exact nl_str
      · exact nl_int
      · exact nl_int
      · exact nl_int
    have fD := fC.trans (Fr.ex fC.bag x14)
    dsimp only
    refine s_seq ⟨.ref b, rfl, .ref L7, rfl, b, L7, nu, rfl, fD.bag, x14 _ _ m7, nL7, nb0, nbl, fun i H15 mi f15 => g_name ?_⟩
    dsimp only
    have fE := fD.trans f15
    refine s_seq (s_if (b := decide (wy < 14)) (et_test (ev_op (ev_var rfl) ev_c rv_I0)) (fun _ H16 x16 => ?_) fun z14 H16 x16 => s_next ?_)
    · have fF := fE.trans (Fr.ex fE.bag x16)
      refine ⟨.int i, rfl, sz_of (by simp), fun L9 n9 => ?_⟩
      have fG := Fr.new (o := .lst [V.int 0, .int 1, .int 2, .int 5, .int 50]) fF.bag n9
      refine take_of (b := b) (m := 5) fG.bag (ea_cons (ev_var rfl) (ea_cons ev_c ea_nil)) (by decide) (by decide) fun r3 H17 f17 a5 a6 => ?_
      have hL9 : H17 L9 = some (.lst [V.int 0, .int 1, .int 2, .int 5, .int 50]) := f17.at upd_same (fF.bag.ne n9)
      obtain ⟨n, rfl⟩ : ∃ n : Nat, r3 = (n : Int) := ⟨r3.toNat, by omega⟩
      obtain ⟨j, hj, jb⟩ : ∃ j : Nat, [V.int 0, .int 1, .int 2, .int 5, .int 50][n]? = some (.int (j : Int)) ∧ j ≤ 1000 := by
        have : n = 0 ∨ n = 1 ∨ n = 2 ∨ n = 3 ∨ n = 4 := by omega
        rcases this with rfl | rfl | rfl | rfl | rfl
        · exact ⟨0, rfl, by omega⟩
        · exact ⟨1, rfl, by omega⟩
        · exact ⟨2, rfl, by omega⟩
        · exact ⟨5, rfl, by omega⟩
        · exact ⟨50, rfl, by omega⟩
      refine ⟨L9, _, n, .int (j : Int), rfl, rfl, sq_of hL9, atI_nat hj, sz_of (by simp), fun t ht => ?_⟩
      refine q (.look i j) t [.str "look", .int i, .int (j : Int)] _ (((fF.trans fG).trans f17).trans (Fr.new f17.bag ht)) (st_of upd_same) (.cons (.str _) (.cons (.int _) (.cons (.int _) .nil))) ⟨small_log (nbb i mi), jb⟩ fun d md => ?_
      simp only [stD, List.mem_cons, List.not_mem_nil, or_false] at md
      rcases md with rfl | rfl | rfl
      · exact nl_str
      · exact nl_int
      · exact nl_int
    have fF := fE.trans (Fr.ex fE.bag x16)
    have p3 := x16 _ _ (f15.at (x14 _ _ m3) nL3)
    dsimp only
    refine s_seq ⟨.ref b, rfl, .ref L3, rfl, b, L3, lv, rfl, fF.bag, p3, nL3, lvl.1, lvl.2, fun li H17 ml f17 => g_name ?_⟩
    dsimp only
    have fG := fF.trans f17
    refine s_seq (t_asg ⟨.int i, rfl, sz_of (by simp), fun t1 n1 => ⟨.int i, rfl, sz_of (by simp), fun t2 n2 => ⟨.int i, rfl, sz_of (by simp), fun t3 n3 => ⟨.int li, rfl, .int z, rfl, sz_of (by simp), fun t4 n4 => ⟨.int li, rfl, sz_of (by simp), fun t5 n5 => ⟨sz_of (by simp), fun L10 n10 => g_name ?_⟩⟩⟩⟩⟩⟩)
    dsimp only
    refine ⟨.ref L10, rfl, .int z, rfl, sz_of (by simp), fun t6 n6 => ⟨sz_of (by simp), fun L11 n11 => ⟨L10, L11, _, _, rfl, rfl, (Ex.new n11) _ _ ((Ex.new n6) _ _ upd_same), upd_same, sz_of (by simp), fun L12 n12 => ⟨.int wy, rfl, wy, 14, rfl, rfl, ?_⟩⟩⟩⟩
    have q6 := (Ex.new n11 (o := .lst [.ref t6])).trans (Ex.new n12 (o := .lst [.ref t1, .ref t2, .ref t3, .ref t4, .ref t5, .ref t6]))
    have q10 := ((Ex.new n10 (o := .lst [.ref t1, .ref t2, .ref t3, .ref t4, .ref t5])).trans (Ex.new n6 (o := .tup [.str "trim", .int z]))).trans q6
    have q5 := (Ex.new n5 (o := .tup [.str "leave", .int li])).trans q10
    have q4 := (Ex.new n4 (o := .tup [.str "hold", .int li, .int z])).trans q5
    have q3 := (Ex.new n3 (o := .tup [.str "stop", .int i])).trans q4
    have q2 := (Ex.new n2 (o := .tup [.str "finish", .int i])).trans q3
    have q1 := (Ex.new n1 (o := .tup [.str "finish", .int i])).trans q2
    have fZ := fG.trans (Fr.ex fG.bag q1)
    have ib := small_log (nbb i mi)
    have lb := small_log (lvb li ml)
    have zl := small_log zb
    obtain ⟨n, hn⟩ : ∃ n : Nat, wy - 14 = (n : Int) := ⟨(wy - 14).toNat, by have := of_decide_eq_false z14; omega⟩
    have nlt : n = 0 ∨ n = 1 ∨ n = 2 ∨ n = 3 ∨ n = 4 ∨ n = 5 := by omega
    have two : ∀ (sw : Str) (i : Int), ∀ d ∈ [PyData.str sw, .int i], nl 3 d = true := fun sw i d md => by
      simp only [List.mem_cons, List.not_mem_nil, or_false] at md
      rcases md with rfl | rfl
      · exact nl_str
      · exact nl_int
    dsimp only
    rw [hn]
    rcases nlt with rfl | rfl | rfl | rfl | rfl | rfl
    · exact ⟨L12, _, 0, .ref t1, rfl, rfl, sq_of upd_same, (atI_nat (j := 0) rfl : atI [V.ref t1, .ref t2, .ref t3, .ref t4, .ref t5, .ref t6] ((0 : Nat) : Int) = _), q (.finish i) t1 [.str "finish", .int i] _ fZ (st_of (q2 _ _ upd_same)) (.cons (.str _) (.cons (.int _) .nil)) ib (two _ _)⟩
    · exact ⟨L12, _, 1, .ref t2, rfl, rfl, sq_of upd_same, (atI_nat (j := 1) rfl : atI [V.ref t1, .ref t2, .ref t3, .ref t4, .ref t5, .ref t6] ((1 : Nat) : Int) = _), q (.finish i) t2 [.str "finish", .int i] _ fZ (st_of (q3 _ _ upd_same)) (.cons (.str _) (.cons (.int _) .nil)) ib (two _ _)⟩
    · exact ⟨L12, _, 2, .ref t3, rfl, rfl, sq_of upd_same, (atI_nat (j := 2) rfl : atI [V.ref t1, .ref t2, .ref t3, .ref t4, .ref t5, .ref t6] ((2 : Nat) : Int) = _), q (.stop i) t3 [.str "stop", .int i] _ fZ (st_of (q4 _ _ upd_same)) (.cons (.str _) (.cons (.int _) .nil)) ib (two _ _)⟩
    · refine ⟨L12, _, 3, .ref t4, rfl, rfl, sq_of upd_same, (atI_nat (j := 3) rfl : atI [V.ref t1, .ref t2, .ref t3, .ref t4, .ref t5, .ref t6] ((3 : Nat) : Int) = _), q (.hold li z) t4 [.str "hold", .int li, .int z] _ fZ (st_of (q5 _ _ upd_same)) (.cons (.str _) (.cons (.int _) (.cons (.int _) .nil))) ⟨lb, zl⟩ fun d md => ?_⟩
      simp only [stD, List.mem_cons, List.not_mem_nil, or_false] at md
      rcases md with rfl | rfl | rfl
      · exact nl_str
      · exact nl_int
      · exact nl_int
    · exact ⟨L12, _, 4, .ref t5, rfl, rfl, sq_of upd_same, (atI_nat (j := 4) rfl : atI [V.ref t1, .ref t2, .ref t3, .ref t4, .ref t5, .ref t6] ((4 : Nat) : Int) = _), q (.leave li) t5 [.str "leave", .int li] _ fZ (st_of (q10 _ _ upd_same)) (.cons (.str _) (.cons (.int _) .nil)) lb (two _ _)⟩
    · exact ⟨L12, _, 5, .ref t6, rfl, rfl, sq_of upd_same, (atI_nat (j := 5) rfl : atI [V.ref t1, .ref t2, .ref t3, .ref t4, .ref t5, .ref t6] ((5 : Nat) : Int) = _), q (.trim z) t6 [.str "trim", .int z] _ fZ (st_of (q6 _ _ upd_same)) (.cons (.str _) (.cons (.int _) .nil)) zl (two _ _)⟩
end
theorem least_first (f : Int → Option Int) : ∀ (n : Nat) (a : Int), firstN f n a = least f n a
  | 0, _ => rfl
  | n + 1, a => by
    unfold firstN least
    cases f a with
    | some z => rfl
    | none => exact least_first f n (a + 1)
theorem leastF_first (f : Int → Option Int) (a b : Int) : firstIn f a b = leastF f a b := least_first f _ a
/-- looks that were made: the rows found at moments, and whether the end was -/
def lookP (T : Nat → Int → Option Int) (b : Int) : Int → List Nat → List (Int × Int) → Bool → Prop
  | _, [], [], e => e = false
  | _, [], _ :: _, _ => False
  | a, m :: ms, [], e => leastF (T m) a b = none ∧ ms = [] ∧ e = true
  | a, m :: ms, r :: fs, e => leastF (T m) a b = some r ∧ lookP T b (r.1 + 1) ms fs e
theorem lookP_looks {T : Nat → Int → Option Int} {b : Int} : ∀ (ms : List Nat) (a : Int) (fs : List (Int × Int)), lookP T b a ms fs true → looks T b a ms = some fs
  | [], _, [], h => by cases h
  | [], _, _ :: _, h => h.elim
  | m :: ms, a, [], h => by
    obtain ⟨h1, rfl, _⟩ := h
    rw [looks_end h1]
    rfl
  | m :: ms, a, r :: fs, h => by
    rw [looks_on h.1, lookP_looks ms _ fs h.2]
    rfl
theorem lookP_same {T T' : Nat → Int → Option Int} {b : Int} : ∀ (ms : List Nat) (a : Int) (fs : List (Int × Int)) (e : Bool), (∀ m ∈ ms, T m = T' m) → lookP T b a ms fs e → lookP T' b a ms fs e
  | [], _, [], _, _, h => h
  | [], _, _ :: _, _, _, h => h
  | m :: ms, a, [], e, s, h => by
    obtain ⟨h1, h2, h3⟩ := h
    rw [s m List.mem_cons_self] at h1
    exact ⟨h1, h2, h3⟩
  | m :: ms, a, r :: fs, e, s, h => by
    obtain ⟨h1, h2⟩ := h
    rw [s m List.mem_cons_self] at h1
    exact ⟨h1, lookP_same ms _ fs e (fun m' h => s m' (List.mem_cons_of_mem _ h)) h2⟩
/-- where the next look begins -/
def afterF (a : Int) (fs : List (Int × Int)) : Int := match fs.getLast? with
  | some r => r.1 + 1
  | none => a
theorem after_cons (a : Int) (r : Int × Int) (fs : List (Int × Int)) : afterF a (r :: fs) = afterF (r.1 + 1) fs := by
  unfold afterF
  cases fs with
  | nil => rfl
  | cons s fs => rw [List.getLast?_cons_cons]; cases h : (s :: fs).getLast? with
    | none => cases (List.getLast?_eq_none_iff.mp h)
    | some r => rfl
theorem lookP_row {T : Nat → Int → Option Int} {b : Int} {L : Nat} {r : Int × Int} : ∀ (ms : List Nat) (a : Int) (fs : List (Int × Int)), lookP T b a ms fs false → leastF (T L) (afterF a fs) b = some r → lookP T b a (ms ++ [L]) (fs ++ [r]) false
  | [], _, [], _, h2 => ⟨h2, rfl⟩
  | [], _, _ :: _, h, _ => h.elim
  | m :: ms, a, [], h, _ => by cases h.2.2
  | m :: ms, a, s :: fs, h, h2 => ⟨h.1, lookP_row ms _ fs h.2 (by rw [← after_cons]; exact h2)⟩
theorem lookP_end {T : Nat → Int → Option Int} {b : Int} {L : Nat} : ∀ (ms : List Nat) (a : Int) (fs : List (Int × Int)), lookP T b a ms fs false → leastF (T L) (afterF a fs) b = none → lookP T b a (ms ++ [L]) fs true
  | [], _, [], _, h2 => ⟨h2, rfl, rfl⟩
  | [], _, _ :: _, h, _ => h.elim
  | m :: ms, a, [], h, _ => by cases h.2.2
  | m :: ms, a, s :: fs, h, h2 => ⟨h.1, lookP_end ms _ fs h.2 (by rw [← after_cons]; exact h2)⟩
theorem worths_more {rs : List (Int × Int)} {ws new : List PyData} {k : Nat} (h : k ≤ ws.length) : worthsAt rs ws k = worthsAt rs (ws ++ new) k := by
  unfold worthsAt
  rw [List.take_append_of_le_length h]
/-- a reading, and the moments of its looks -/
def Gho (rs : List (Int × Int)) (ws : List PyData) (x : Rdg) : Prop := ∃ pre post o ms, ws = pre ++ (loD o x.num :: post) ∧ (∀ d ∈ pre, mkOf d ≠ some x.num) ∧ (∀ d ∈ post, mkOf d ≠ some x.num) ∧ lookP (worthsAt rs ws) x.hi x.lo ms x.found x.ended ∧ ms.Pairwise (· ≤ ·) ∧ ∀ k ∈ ms, pre.length + 1 ≤ k ∧ k ≤ ws.length
theorem Gho.more {rs : List (Int × Int)} {ws new : List PyData} {x : Rdg} (h : Gho rs ws x) (hn : ∀ d ∈ new, mkOf d ≠ some x.num) : Gho rs (ws ++ new) x := by
  obtain ⟨pre, post, o, ms, e, p1, p2, lp, pw, hb⟩ := h
  refine ⟨pre, post ++ new, o, ms, by rw [e, List.append_assoc, List.cons_append], p1, fun d md => ?_, lookP_same ms _ _ _ (fun k mk => worths_more (hb k mk).2) lp, pw, fun k mk => ⟨(hb k mk).1, by rw [List.length_append]; have := (hb k mk).2; omega⟩⟩
  rcases List.mem_append.mp md with md | md
  · exact p2 d md
  · exact hn d md
theorem next_after (x : Rdg) : nextOf x = afterF x.lo x.found := rfl
theorem Gho.one {rs : List (Int × Int)} {ws : List PyData} {x : Rdg} (h : Gho rs ws x) (ne : x.ended = false) : Gho rs ws (look1 (worthsAt rs ws ws.length) x) := by
  obtain ⟨pre, post, o, ms, e, p1, p2, lp, pw, hb⟩ := h
  rw [ne] at lp
  have pw' : (ms ++ [ws.length]).Pairwise (· ≤ ·) := List.pairwise_append.mpr ⟨pw, List.pairwise_singleton _ _, fun k mk j mj => by
    rw [List.mem_singleton.mp mj]
    exact (hb k mk).2⟩
  have hb' : ∀ k ∈ ms ++ [ws.length], pre.length + 1 ≤ k ∧ k ≤ ws.length := fun k mk => by
    rcases List.mem_append.mp mk with mk | mk
    · exact hb k mk
    · rw [List.mem_singleton.mp mk]
      refine ⟨?_, Nat.le_refl _⟩
      rw [e, List.length_append, List.length_cons]
      omega
  unfold look1
  rw [leastF_first, next_after]
  cases hl : leastF (worthsAt rs ws ws.length) (afterF x.lo x.found) x.hi with
  | some r =>
    refine ⟨pre, post, o, ms ++ [ws.length], e, p1, p2, ?_, pw', hb'⟩
    have := lookP_row (L := ws.length) ms _ _ lp hl
    rw [← ne] at this
    exact this
  | none => exact ⟨pre, post, o, ms ++ [ws.length], e, p1, p2, lookP_end (L := ws.length) ms _ _ lp hl, pw', hb'⟩
theorem Gho.look {rs : List (Int × Int)} {ws : List PyData} {x : Rdg} (h : Gho rs ws x) : ∀ n, Gho rs ws (lookN (worthsAt rs ws ws.length) n x)
  | 0 => h
  | n + 1 => by
    have ih := h.look n
    unfold lookN
    dsimp only
    split
    · exact ih
    · rename_i z
      exact ih.one (by simpa using z)
/-- a house whose whole log is kept -/
structure WG (rs : List (Int × Int)) (m : HM) : Prop where
  fk : m.fk = 0
  f : m.f = appl (fRows rs) (lgD m.log)
  mks : ∀ d ∈ m.log, ∀ n, mkOf d = some n → n < m.bg
  rd : ∀ x ∈ m.run, Gho rs m.log x
theorem WG.now {rs : List (Int × Int)} {m : HM} (h : WG rs m) : m.f = worthsAt rs m.log m.log.length := by
  unfold worthsAt
  rw [List.take_length]
  exact h.f
theorem mk_two (a d : PyData) : mkOf (.tuple [a, d]) = none := by
  cases a <;> first | rfl | (cases d <;> rfl)
theorem en_grp {d : PyData} (h : isGr d = true) : enD (.tuple [.str "group", d]) = grD d := by
  cases d <;> first | rfl | cases h
theorem rdOf_in {m : HM} {i : Int} {x : Rdg} (h : rdOf m i = some x) : x ∈ m.run ∧ x.num = i := ⟨List.mem_of_find?_eq_some h, by simpa using List.find?_some h⟩
theorem WG.step {rs : List (Int × Int)} {m m' : HM} {s : Stp} {r : PyData} (W : WG rs m) (hb : ∀ x ∈ m.run, 0 ≤ x.num ∧ x.num < m.bg) (h : hdo m s = .ok m' r) (nt : ∀ i, s ≠ .trim i) : WG rs m' := by
  cases s with
  | change d =>
    dsimp only [hdo] at h
    repeat' (split at h)
    · rename_i hg _
      cases h
      refine ⟨W.fk, ?_, fun e me n hn => ?_, fun x mx => (W.rd x mx).more fun e me => ?_⟩
      · show appl m.f (grD d) = appl (fRows rs) (lgD (m.log ++ [_]))
        rw [lgD_snoc, appl_app, ← W.f, en_grp hg]
      · rcases List.mem_append.mp me with me | me
        · exact W.mks e me n hn
        · rw [List.mem_singleton.mp me, mk_two] at hn
          cases hn
      · rw [List.mem_singleton.mp me, mk_two]
        exact fun z => by cases z
    · cases h
    · cases h
  | life =>
    dsimp only [hdo] at h
    cases h
    exact ⟨W.fk, W.f, W.mks, W.rd⟩
  | begin i a b =>
    dsimp only [hdo] at h
    repeat' (split at h)
    · cases h
      refine ⟨W.fk, ?_, fun e me n hn => ?_, fun x mx => ?_⟩
      · show m.f = appl (fRows rs) (lgD (m.log ++ [_]))
        rw [lgD_snoc]
        show m.f = appl (fRows rs) (lgD m.log ++ [])
        rw [List.append_nil]
        exact W.f
      · show n < ((m.bg + 1 : Nat) : Int)
        rcases List.mem_append.mp me with me | me
        · have := W.mks e me n hn
          omega
        · rw [List.mem_singleton.mp me] at hn
          cases hn
          omega
      · rcases List.mem_append.mp mx with mx | mx
        · refine (W.rd x mx).more fun e me => ?_
          rw [List.mem_singleton.mp me]
          intro z
          have := (hb x mx).2
          have := Option.some.inj (show some (m.bg : Int) = some x.num from z)
          omega
        · rw [List.mem_singleton.mp mx]
          refine ⟨m.log, [], i, [], rfl, fun d md z => ?_, (fun d md => by cases md), rfl, .nil, fun k mk => by cases mk⟩
          exact absurd (W.mks d md (m.bg : Int) z) (Int.lt_irrefl _)
    · cases h
    · cases h
  | look i n =>
    dsimp only [hdo] at h
    repeat' (split at h)
    · cases h
    · cases h
    · cases h
      refine ⟨W.fk, W.f, W.mks, fun x mx => ?_⟩
      obtain ⟨y, my, rfl⟩ := List.mem_map.mp mx
      unfold upR
      split
      · rw [W.now]
        exact (W.rd y my).look n
      · exact W.rd y my
  | finish i =>
    dsimp only [hdo] at h
    repeat' (split at h)
    · cases h
    · rename_i x hx _
      cases h
      obtain ⟨mx, nx⟩ := rdOf_in hx
      refine ⟨W.fk, ?_, fun e me n hn => ?_, fun y my => ?_⟩
      · show m.f = appl (fRows rs) (lgD (m.log ++ [_]))
        rw [lgD_snoc]
        show m.f = appl (fRows rs) (lgD m.log ++ [])
        rw [List.append_nil]
        exact W.f
      · show n < (m.bg : Int)
        rcases List.mem_append.mp me with me | me
        · exact W.mks e me n hn
        · rw [List.mem_singleton.mp me] at hn
          cases hn
          have := (hb x mx).2
          omega
      · obtain ⟨my1, my2⟩ := List.mem_filter.mp my
        refine (W.rd y my1).more fun e me => ?_
        rw [List.mem_singleton.mp me]
        intro z
        have := Option.some.inj (show some i = some y.num from z)
        rw [decide_eq_true this.symm] at my2
        cases my2
    · cases h
  | stop i =>
    dsimp only [hdo] at h
    repeat' (split at h)
    · cases h
    · cases h
      exact ⟨W.fk, W.f, W.mks, fun x mx => W.rd x (List.mem_filter.mp mx).1⟩
  | hold i z =>
    dsimp only [hdo] at h
    repeat' (split at h)
    · cases h
      exact ⟨W.fk, W.f, W.mks, W.rd⟩
    · cases h
    · cases h
  | leave i =>
    dsimp only [hdo] at h
    repeat' (split at h)
    · cases h
      exact ⟨W.fk, W.f, W.mks, fun x mx => W.rd x (List.mem_filter.mp mx).1⟩
    · cases h
  | trim i => exact absurd rfl (nt i)
/-- a reading that is finished was read at moments between its marks -/
theorem WG.fin {rs : List (Int × Int)} {m m' : HM} {i : Int} {r : PyData} (W : WG rs m) (h : hdo m (.finish i) = .ok m' r) : ∃ x pre post o, x ∈ m.run ∧ x.num = i ∧ r = rowsD x.found ∧ m'.log = pre ++ (loD o i :: (post ++ [hiD x.own i])) ∧ (∀ d ∈ pre, mkOf d ≠ some i) ∧ (∀ d ∈ post, mkOf d ≠ some i) ∧ x.found.length < (lmF (worthsAt rs m'.log) x.hi (pre.length + 1 + post.length) (pre.length + 1) x.lo (wantW x.found)).length := by
  dsimp only [hdo] at h
  repeat' (split at h)
  · cases h
  · rename_i x hx he
    cases h
    obtain ⟨mx, rfl⟩ := rdOf_in hx
    obtain ⟨pre, post, o, ms, e, p1, p2, lp, pw, hbb⟩ := W.rd x mx
    have el : m.log.length = pre.length + 1 + post.length := by rw [e, List.length_append, List.length_cons]; omega
    refine ⟨x, pre, post, o, mx, rfl, rfl, ?_, p1, p2, ?_⟩
    · show m.log ++ [_] = _
      rw [e, List.append_assoc, List.cons_append]
      rfl
    · have lp' := lookP_same (T' := worthsAt rs (m.log ++ [.tuple [.str "high", .int x.own, .int x.num]])) ms _ _ _ (fun k mk => worths_more (hbb k mk).2) lp
      rw [he] at lp'
      have := (greedy (high := pre.length + 1 + post.length) _ ms x.found (pre.length + 1) x.lo (Nat.le_refl _) (lookP_looks _ _ _ lp') pw fun k mk => ⟨(hbb k mk).1, by have := (hbb k mk).2; omega⟩).1
      show x.found.length < (lmF (worthsAt rs (m.log ++ [_])) _ _ _ _ _).length
      rw [this]
      exact Nat.lt_succ_self _
  · cases h
end K18
namespace K18
open PySem L2 L2H PyProof.Rows Tc Evl
abbrev sLaw : Stmt := topS 74
theorem scLaw : FnScope ["script", "k", "bag", "keys", "table", "house", "stretches", "turn", "step", "found", "kind", "field", "log", "low", "high", "stretch"] ["script"] (defScope sLaw) := ⟨rfl, rfl, rfl, by decide +kernel, rfl, by decide +kernel, by decide +kernel⟩
theorem ev_min2 {σ : L2.St} {H : Hp} {ta tb : TE} {i j : Int} (ha : Ev ta σ H (.int i)) (hb : Ev tb σ H (.int j)) : Ev (tCB (fun xs H Q => ∃ i j, xs = [.int i, .int j] ∧ Q (.int (if j < i then j else i)) H) (tCons ta (tCons tb tNil))) σ H (.int (if j < i then j else i)) :=
  ev_cb (ea_cons ha (ea_cons hb ea_nil)) fun H1 _ _ q => ⟨i, j, rfl, q H1 (Ex.refl H1)⟩
theorem table_ok {rs : List (Int × Int)} (h : RsOk rs) : isTable (rowsD rs) = true := by
  have go : ∀ (rs : List (Int × Int)) (l : Int), (rs.Pairwise fun x y => x.1 < y.1) → (∀ r ∈ rs, l ≤ r.1 ∧ 0 ≤ r.1 ∧ r.1 < 1000 ∧ 0 ≤ r.2 ∧ r.2 < 1000) → rising l (rs.map Tc.pairD) = true := fun rs => by
    induction rs with
    | nil => exact fun _ _ _ => rfl
    | cons r rs ih =>
      intro l up inn
      obtain ⟨u1, u2⟩ := List.pairwise_cons.mp up
      have hr := inn r List.mem_cons_self
      rw [List.map_cons, rising, ih (keyOf (Tc.pairD r) + 1) u2 fun s m => ⟨by have := u1 s m; show r.1 + 1 ≤ s.1; omega, (inn s (List.mem_cons_of_mem _ m)).2⟩]
      have k1 : isRow (Tc.pairD r) = true := by
        show ((decide (0 ≤ r.1) && decide (r.1 < 1000)) && (decide (0 ≤ r.2) && decide (r.2 < 1000))) = true
        rw [decide_eq_true hr.2.1, decide_eq_true hr.2.2.1, decide_eq_true hr.2.2.2.1, decide_eq_true hr.2.2.2.2]
        rfl
      have k2 : decide (l ≤ keyOf (Tc.pairD r)) = true := decide_eq_true hr.1
      rw [k1, k2]
      rfl
  show (decide ((rs.map Tc.pairD).length ≤ 100) && rising 0 (rs.map Tc.pairD)) = true
  rw [go rs 0 h.up fun r m => ⟨(h.inn r m).1, h.inn r m⟩, decide_eq_true (by rw [List.length_map]; exact h.few)]
  rfl
theorem rowsD_inj {a b : List (Int × Int)} (h : rowsD a = rowsD b) : a = b := by
  have h1 : a.map Tc.pairD = b.map Tc.pairD := PyData.tuple.inj h
  refine List.map_inj_right (f := Tc.pairD) (fun x y e => ?_) |>.mp h1
  have := PyData.tuple.inj e
  simp only [List.cons.injEq, PyData.int.injEq, and_true] at this
  exact Prod.ext this.1 this.2
theorem hs_new {K : PySem.W.Frag} {C R : Addr} {H : Hp} {p dW dK dL dR : Addr} {kvs : List (Key × V)} {f : Int → Option Int} (S : HsAt C H p dW dK dL dR kvs [] 0 0 0 [] []) (di : DI allKs kvs f) : HsM K C R H p ⟨f, [], 0, 0, 0, [], []⟩ (fun a => a ∈ fpL p dW dK dL dR []) := by
  refine ⟨dW, dK, dL, dR, kvs, [], [], ⟨S, di, .nil, (fun d m => by cases m), .nil, (fun d m => by cases m), rfl, .nil, (fun d m => by cases m), (fun d m => by cases m), (fun d m => by cases m), ?_⟩, fun a => Iff.rfl⟩
  obtain ⟨dx, hp⟩ := S.ob
  have ne : ∀ {a c : Addr} {o u : HO}, H a = some o → H c = some u → o ≠ u → a ≠ c := fun h1 h2 n e => by
    rw [e, h2] at h1
    exact n (Option.some.inj h1).symm
  have e1 := ne hp S.wo (by simp)
  have e2 := ne hp S.ke (by simp)
  have e3 := ne hp S.li (by simp)
  have e4 := ne hp S.ru (by simp)
  have e5 := ne S.wo S.ke (by simp)
  have e6 := ne S.ke S.li (by simp)
  have e7 := ne S.ke S.ru (by simp)
  have n1 := S.n1
  have n2 := S.n2
  have n3 := S.n3
  simp only [fpL, List.flatMap_nil, List.nodup_cons, List.mem_cons, List.not_mem_nil, or_false, not_or, List.nodup_nil, and_true, not_false_eq_true]
  refine ⟨⟨e1, e2, e3, e4⟩, ⟨e5, ?_, ?_⟩, ⟨e6, e7⟩, ?_⟩
  all_goals first | exact n1 | exact n2 | exact n3 | exact n1.symm | exact n2.symm | exact n3.symm
/-- what a step leaves of the log -/
theorem hdo_log {m m' : HM} {s : Stp} {r : PyData} (h : hdo m s = .ok m' r) : ∃ new : List PyData, new.length ≤ 1 ∧ m.fk ≤ m'.fk ∧ m'.fk ≤ m.fk + m.log.length ∧ m'.log = m.log.drop (m'.fk - m.fk) ++ new ∧ m'.lg ≤ m.lg + 1 ∧ m'.bg ≤ m.bg + 1 := by
  have same : ∀ {a b : HM}, b.fk = a.fk → a.log.drop (b.fk - a.fk) = a.log := fun e => by rw [e, Nat.sub_self, List.drop_zero]
  cases s with
  | change d =>
    dsimp only [hdo] at h
    repeat' (split at h)
    · cases h
      exact ⟨[_], Nat.le_refl 1, Nat.le_refl _, Nat.le_add_right _ _, (congrArg (· ++ _) (by rw [Nat.sub_self, List.drop_zero])).symm, Nat.le_succ _, Nat.le_succ _⟩
    · cases h
    · cases h
  | life =>
    dsimp only [hdo] at h
    cases h
    exact ⟨[], Nat.zero_le 1, Nat.le_refl _, Nat.le_add_right _ _, by rw [List.append_nil, Nat.sub_self, List.drop_zero], Nat.le_refl _, Nat.le_succ _⟩
  | begin i a b =>
    dsimp only [hdo] at h
    repeat' (split at h)
    · cases h
      exact ⟨[_], Nat.le_refl 1, Nat.le_refl _, Nat.le_add_right _ _, (congrArg (· ++ _) (by rw [Nat.sub_self, List.drop_zero])).symm, Nat.le_succ _, Nat.le_refl _⟩
    · cases h
    · cases h
  | look i n =>
    dsimp only [hdo] at h
    repeat' (split at h)
    · cases h
    · cases h
    · cases h
      exact ⟨[], Nat.zero_le 1, Nat.le_refl _, Nat.le_add_right _ _, by rw [List.append_nil, Nat.sub_self, List.drop_zero], Nat.le_succ _, Nat.le_succ _⟩
  | finish i =>
    dsimp only [hdo] at h
    repeat' (split at h)
    · cases h
    · cases h
      exact ⟨[_], Nat.le_refl 1, Nat.le_refl _, Nat.le_add_right _ _, (congrArg (· ++ _) (by rw [Nat.sub_self, List.drop_zero])).symm, Nat.le_succ _, Nat.le_succ _⟩
    · cases h
  | stop i =>
    dsimp only [hdo] at h
    repeat' (split at h)
    · cases h
    · cases h
      exact ⟨[], Nat.zero_le 1, Nat.le_refl _, Nat.le_add_right _ _, by rw [List.append_nil, Nat.sub_self, List.drop_zero], Nat.le_succ _, Nat.le_succ _⟩
  | hold i z =>
    dsimp only [hdo] at h
    repeat' (split at h)
    · cases h
      exact ⟨[], Nat.zero_le 1, Nat.le_refl _, Nat.le_add_right _ _, by rw [List.append_nil, Nat.sub_self, List.drop_zero], Nat.le_succ _, Nat.le_succ _⟩
    · cases h
    · cases h
  | leave i =>
    dsimp only [hdo] at h
    repeat' (split at h)
    · cases h
      exact ⟨[], Nat.zero_le 1, Nat.le_refl _, Nat.le_add_right _ _, by rw [List.append_nil, Nat.sub_self, List.drop_zero], Nat.le_succ _, Nat.le_succ _⟩
    · cases h
  | trim i =>
    dsimp only [hdo] at h
    split at h
    · rename_i hp
      have hp' : (m.fk : Int) ≤ i ∧ i ≤ (m.fk : Int) + (m.log.length : Int) := of_decide_eq_true hp
      split at h
      · cases h
      · cases h
        refine ⟨[], Nat.zero_le 1, ?_, ?_, ?_, Nat.le_succ _, Nat.le_succ _⟩
        · show m.fk ≤ i.toNat
          omega
        · show i.toNat ≤ m.fk + m.log.length
          omega
        · show m.log.drop (i - m.fk).toNat = m.log.drop (i.toNat - m.fk) ++ []
          rw [List.append_nil]
          congr 1
          omega
    · cases h
def stW : Stp → Str
  | .change _ => "change" | .life => "life" | .begin _ _ _ => "begin" | .look _ _ => "look" | .finish _ => "finish" | .stop _ => "stop" | .hold _ _ => "hold" | .leave _ => "leave" | .trim _ => "trim"
theorem st_head {K : PySem.W.Frag} {H : Hp} {vs : List V} {sp : Stp} (h : DpAll K H vs (stD sp)) : ∃ rest, vs = .str (stW sp) :: rest := by
  cases sp <;> (obtain ⟨u, r, rfl, h0, _⟩ := dps_cons (show DpAll K H vs (_ :: _) from h); cases h0; exact ⟨r, rfl⟩)
theorem ne_raw {K : PySem.W.Frag} {H : Hp} {x y : V} {d : PyData} {n : Nat} {Q : VK} (h1 : Dp K H x d) (h2 : Dp K H y d) (hs : sd n d = true) (hn : n ≤ 64) (q : Q (.bl false) H) : rNeD K x y H Q :=
  ⟨d, d, h1, h2, sd_sh hs hn, sd_sh hs hn, by rw [sd_eq hs]; exact q⟩
theorem dict_ne {a c : Addr} {H : Hp} {kvs : List (Key × V)} {xs : List V} (h1 : H a = some (.dK kvs)) (h2 : H c = some (.lst xs)) : a ≠ c := fun e => by
  rw [e, h2] at h1
  cases h1
def spLaw (K : PySem.W.Frag) : Sp := fun vs H Q _ => ∃ (a : Addr) (ns : List Int), vs = [.ref a] ∧ SqL K H a (ns.map V.int) ∧ ns.length ≤ 63 ∧ ∀ H', Q (.bl true) H'
/-- for .. in range(c + a draw) -/
theorem for_drawC {b : Addr} {σ : L2.St} {H : Hp} {i j : Nat} {c m : Int} {E : XK} {tu : TS} {D : Ends} (Pv : Nat → L2.St → Hp → Prop) (hB : Bag H b) (hσ : σ[i]? = some (some (.ref b))) (c0 : 0 ≤ c) (c1 : c < 10000) (h0 : 0 < m) (h1 : m < 10000) (hp : ∀ H', Tc.Fr b H H' → Pv 0 σ H')
    (hs : ∀ (i : Nat) σ' H', (i : Int) < c + m → Pv i σ' H' → tu { D with nx := Pv (i + 1), ct := Pv (i + 1), bk := D.nx } (σ'.set j (some (.int (0 + (i : Int))))) H') (hd : ∀ (n : Nat) σ' H', (n : Int) ≤ c + m → Pv n σ' H' → D.nx σ' H') : tFor (iRng1 (tCons (tOp (rI0 fun i j => .int (i + j)) (tC (.int c)) (tCall spTake [] E (tCons (tVar i) (tCons (tC (.int m)) tNil)))) tNil)) (gName j) tu D σ H :=
  take_of hB (ea_cons (ev_var hσ) (ea_cons ev_c ea_nil)) h0 (by omega) fun r H' f r0 r1 => ⟨c, r, rfl, rfl, c + r, rfl, by omega, by omega, for_range (lo := 0) (n := (c + r).toNat) Pv (hp H' f) (fun i σ' G hi p => hs i σ' G (by omega) p) (fun σ' G p => hd (c + r).toNat σ' G (by omega) p)⟩
theorem call_of {sp : Sp} {E : XK} {ta : TA} {σ : L2.St} {H : Hp} {Q : VK} {vs : List V} (ha : EvA ta σ H vs) (k : ∀ H1, Ex H H1 → sp (vs ++ []) H1 Q E) : tCall sp [] E ta σ H Q := ha H (Ex.refl H) _ fun H1 e => k H1 e
theorem if_call {r : R2} {sp : Sp} {E : XK} {ta : TA} {tb : TE} {u v : TS} {D : Ends} {σ : L2.St} {H : Hp} (h : tCall sp [] E ta σ H (fun x H1 => tb σ H1 fun y H2 => r x y H2 fun z H3 => ∃ c, z = .bl c ∧ (if c = true then u D σ H3 else v D σ H3))) : tIfS (tTest (tOp r (tCall sp [] E ta) tb)) u v D σ H := h
def isFi : Stp → Option Int
  | .finish i => some i | _ => none
def isBe : Stp → Bool
  | .begin _ _ _ => true | _ => false
theorem w_begin : ∀ sp : Stp, decide (V.str (stW sp) = V.str "begin") = isBe sp
  | .change _ => (by decide +kernel : decide (V.str "change" = V.str "begin") = false)
  | .life => (by decide +kernel : decide (V.str "life" = V.str "begin") = false)
  | .begin _ _ _ => (by decide +kernel : decide (V.str "begin" = V.str "begin") = true)
  | .look _ _ => (by decide +kernel : decide (V.str "look" = V.str "begin") = false)
  | .finish _ => (by decide +kernel : decide (V.str "finish" = V.str "begin") = false)
  | .stop _ => (by decide +kernel : decide (V.str "stop" = V.str "begin") = false)
  | .hold _ _ => (by decide +kernel : decide (V.str "hold" = V.str "begin") = false)
  | .leave _ => (by decide +kernel : decide (V.str "leave" = V.str "begin") = false)
  | .trim _ => (by decide +kernel : decide (V.str "trim" = V.str "begin") = false)
theorem w_finish : ∀ sp : Stp, decide (V.str (stW sp) = V.str "finish") = (isFi sp).isSome
  | .change _ => (by decide +kernel : decide (V.str "change" = V.str "finish") = false)
  | .life => (by decide +kernel : decide (V.str "life" = V.str "finish") = false)
  | .begin _ _ _ => (by decide +kernel : decide (V.str "begin" = V.str "finish") = false)
  | .look _ _ => (by decide +kernel : decide (V.str "look" = V.str "finish") = false)
  | .finish _ => (by decide +kernel : decide (V.str "finish" = V.str "finish") = true)
  | .stop _ => (by decide +kernel : decide (V.str "stop" = V.str "finish") = false)
  | .hold _ _ => (by decide +kernel : decide (V.str "hold" = V.str "finish") = false)
  | .leave _ => (by decide +kernel : decide (V.str "leave" = V.str "finish") = false)
  | .trim _ => (by decide +kernel : decide (V.str "trim" = V.str "finish") = false)
theorem w_trim (sp : Stp) : (!decide (V.str (stW sp) = V.str "trim")) = true → ∀ z, sp ≠ .trim z := fun h z e => by
  subst e
  rw [show decide (V.str (stW (.trim z)) = V.str "trim") = true from (by decide +kernel : decide (V.str "trim" = V.str "trim") = true)] at h
  cases h
theorem rf_ne (r : Rf) : rfT r ≠ "" := by cases r <;> decide +kernel
theorem st_begin {K : PySem.W.Frag} {H : Hp} {vs : List V} {i a b : Int} (h : DpAll K H vs (stD (.begin i a b))) : vs = [.str "begin", .int i, .int a, .int b] := by
  obtain ⟨u0, r0, rfl, h0, k0⟩ := dps_cons (show DpAll K H vs (_ :: _) from h)
  obtain ⟨u1, r1, rfl, h1, k1⟩ := dps_cons k0
  obtain ⟨u2, r2, rfl, h2, k2⟩ := dps_cons k1
  obtain ⟨u3, r3, rfl, h3, k3⟩ := dps_cons k2
  cases h0
  cases h1
  cases h2
  cases h3
  cases k3
  rfl
theorem st_finish {K : PySem.W.Frag} {H : Hp} {vs : List V} {i : Int} (h : DpAll K H vs (stD (.finish i))) : vs = [.str "finish", .int i] := by
  obtain ⟨u0, r0, rfl, h0, k0⟩ := dps_cons (show DpAll K H vs (_ :: _) from h)
  obtain ⟨u1, r1, rfl, h1, k1⟩ := dps_cons k0
  cases h0
  cases h1
  cases k1
  rfl
/-- the stretches of the open readings, kept beside -/
def SSt (K : PySem.W.Frag) (H : Hp) (kvs : List (Key × V)) (m : HM) : Prop := ∀ x ∈ m.run, ∃ t, valV kvs (.inl x.num) = some (.ref t) ∧ SqT K H t [.int x.lo, .int x.hi]
theorem SSt.kt {K : PySem.W.Frag} {H H' : Hp} {kvs : List (Key × V)} {m : HM} (h : SSt K H kvs m) (k : Kt H H') : SSt K H' kvs m := fun x mx => by
  obtain ⟨t, h1, h2⟩ := h x mx
  exact ⟨t, h1, k.t h2⟩
theorem hdo_run {m m' : HM} {s : Stp} {r : PyData} (h : hdo m s = .ok m' r) (nb : isBe s = false) : ∀ x ∈ m'.run, ∃ y ∈ m.run, y.num = x.num ∧ y.lo = x.lo ∧ y.hi = x.hi := by
  cases s with
  | change d =>
    dsimp only [hdo] at h
    repeat' (split at h)
    all_goals (cases h)
    exact fun x mx => ⟨x, mx, rfl, rfl, rfl⟩
  | life =>
    dsimp only [hdo] at h
    cases h
    exact fun x mx => ⟨x, mx, rfl, rfl, rfl⟩
  | begin i a b => cases nb
  | look i n =>
    dsimp only [hdo] at h
    repeat' (split at h)
    all_goals (cases h)
    intro x mx
    obtain ⟨y, my, rfl⟩ := List.mem_map.mp mx
    refine ⟨y, my, ?_⟩
    unfold upR
    split
    · have := lookN_num m.f n y
      exact ⟨this.1.symm, this.2.2.1.symm, this.2.2.2.symm⟩
    · exact ⟨rfl, rfl, rfl⟩
  | finish i =>
    dsimp only [hdo] at h
    repeat' (split at h)
    all_goals (cases h)
    exact fun x mx => ⟨x, (List.mem_filter.mp mx).1, rfl, rfl, rfl⟩
  | stop i =>
    dsimp only [hdo] at h
    repeat' (split at h)
    all_goals (cases h)
    exact fun x mx => ⟨x, (List.mem_filter.mp mx).1, rfl, rfl, rfl⟩
  | hold i z =>
    dsimp only [hdo] at h
    repeat' (split at h)
    all_goals (cases h)
    exact fun x mx => ⟨x, mx, rfl, rfl, rfl⟩
  | leave i =>
    dsimp only [hdo] at h
    repeat' (split at h)
    all_goals (cases h)
    exact fun x mx => ⟨x, (List.mem_filter.mp mx).1, rfl, rfl, rfl⟩
  | trim i =>
    dsimp only [hdo] at h
    repeat' (split at h)
    all_goals (cases h)
    all_goals exact fun x mx => ⟨x, mx, rfl, rfl, rfl⟩
theorem hdo_begin {m m' : HM} {i a b : Int} {r : PyData} (h : hdo m (.begin i a b) = .ok m' r) : m'.run = m.run ++ [⟨(m.bg : Int), i, a, b, [], false⟩] ∧ r = .int (m.bg : Int) := by
  dsimp only [hdo] at h
  repeat' (split at h)
  all_goals (cases h)
  exact ⟨rfl, rfl⟩
theorem SSt.run {K : PySem.W.Frag} {H : Hp} {kvs : List (Key × V)} {m m' : HM} {s : Stp} {r : PyData} (h : SSt K H kvs m) (e : hdo m s = .ok m' r) (nb : isBe s = false) : SSt K H kvs m' := fun x mx => by
  obtain ⟨y, my, e1, e2, e3⟩ := hdo_run e nb x mx
  obtain ⟨t, h1, h2⟩ := h y my
  rw [e1] at h1
  rw [e2, e3] at h2
  exact ⟨t, h1, h2⟩
theorem len_put (kvs : List (Key × V)) (k : Key) (v : V) : (putK kvs k v).length ≤ kvs.length + 1 := by
  unfold putK
  split
  · rw [List.length_map]
    exact Nat.le_succ _
  · rw [List.length_append]
    exact Nat.le_refl _
theorem found_few {x : Rdg} (h : RgOk x) : x.found.length ≤ 1000 := by
  have nd : (x.found.map (·.1)).Nodup := by
    rw [List.Nodup, List.pairwise_map]
    exact h.g.imp fun {a b} z e => by omega
  have := len_sub (m := allKs) nd fun k mk => by
    obtain ⟨r, mr, rfl⟩ := List.mem_map.mp mk
    exact allKs_mem (h.f r mr).1 (h.f r mr).2
  rw [List.length_map, allKs_len] at this
  exact this
theorem sd_rows (rs : List (Int × Int)) : sd 2 (rowsD rs) = true := by
  refine List.all_eq_true.mpr fun d md => ?_
  obtain ⟨r, _, rfl⟩ := List.mem_map.mp md
  rfl
/-- what is held ahead of the dict -/
structure L0 (K : PySem.W.Frag) (C R : Addr) (H0 : Hp) (b lk p tb : Addr) (ks : List Int) (rs : List (Int × Int)) (m : HM) (X : Addr → Prop) (H : Hp) : Prop where
  x0 : Ex H0 H
  bag : Bag H b
  nb : H0 b = none
  ky : KeysAt b H lk ks
  hs : HsM K C R H p m X
  xb : ¬ X b
  xk : ¬ X lk
  xn : ∀ a, X a → H0 a = none
  tp : TP K H tb rs
theorem L0.out {K : PySem.W.Frag} {C R : Addr} {H0 H H' : Hp} {b lk p tb : Addr} {ks : List Int} {rs : List (Int × Int)} {m m' : HM} {X : Addr → Prop} (S : L0 K C R H0 b lk p tb ks rs m X H) (q : HOut K C R H p X m' H') : ∃ X', L0 K C R H0 b lk p tb ks rs m' X' H' := by
  obtain ⟨X', S', off, sub⟩ := q
  obtain ⟨x, y, hb, r⟩ := S.bag
  have no : ∀ (a : Addr) (o : HO), ¬ X a → H a = some o → ¬ X' a := fun a o n h z => by
    rcases sub _ z with z | z
    · exact n z
    · rw [h] at z
      cases z
  refine ⟨X', fun a o h => off a o (fun z => by rw [S.xn a z] at h; cases h) (S.x0 a o h), ⟨x, y, off _ _ S.xb hb, r⟩, S.nb, ⟨S.ky.ne, off _ _ S.xk S.ky.h, S.ky.bd, S.ky.few, S.ky.some⟩, S', no _ _ S.xb hb, no _ _ S.xk S.ky.h, fun a z => ?_, (Off.kt S.hs.noT off).tp S.tp⟩
  rcases sub a z with z | z
  · exact S.xn a z
  · exact fresh_back S.x0 z
/-- what a turn holds -/
structure LS (K : PySem.W.Frag) (C R : Addr) (H0 : Hp) (b lk p tb o : Addr) (ks : List Int) (rs : List (Int × Int)) (m : HM) (X : Addr → Prop) (kvs : List (Key × V)) (H : Hp) : Prop where
  x0 : Ex H0 H
  bag : Bag H b
  nb : H0 b = none
  ky : KeysAt b H lk ks
  hs : HsM K C R H p m X
  xb : ¬ X b
  xk : ¬ X lk
  xn : ∀ a, X a → H0 a = none
  tp : TP K H tb rs
  so : H o = some (.dK kvs)
  xo : ¬ X o
  on : H0 o = none
section
variable {K : PySem.W.Frag} {C R : Addr} {H0 H H' : Hp} {b lk p tb o : Addr} {ks : List Int} {rs : List (Int × Int)} {m : HM} {X : Addr → Prop} {kvs : List (Key × V)}
theorem LS.ex (S : LS K C R H0 b lk p tb o ks rs m X kvs H) (x : Ex H H') : LS K C R H0 b lk p tb o ks rs m X kvs H' :=
  ⟨S.x0.trans x, (Fr.ex S.bag x).bag, S.nb, S.ky.fr (Fr.ex S.bag x), S.hs.ex x, S.xb, S.xk, S.xn, (Kt.ex x).tp S.tp, x _ _ S.so, S.xo, S.on⟩
theorem LS.fr (S : LS K C R H0 b lk p tb o ks rs m X kvs H) (f : Tc.Fr b H H') : LS K C R H0 b lk p tb o ks rs m X kvs H' := by
  obtain ⟨bx, bY, hb, _⟩ := S.bag
  exact ⟨fun a u h => f.at (S.x0 a u h) (ne_of_none h S.nb), f.bag, S.nb, S.ky.fr f, S.hs.fr S.bag f S.xb, S.xb, S.xk, S.xn, (Kt.fr S.bag f).tp S.tp, f.at S.so (fun e => by
    have h := S.so
    rw [e, hb] at h
    cases h), S.xo, S.on⟩
theorem LS.out {m' : HM} (S : LS K C R H0 b lk p tb o ks rs m X kvs H) (q : HOut K C R H p X m' H') : ∃ X', LS K C R H0 b lk p tb o ks rs m' X' kvs H' ∧ Off X H H' := by
  obtain ⟨X', S', off, sub⟩ := q
  obtain ⟨x, y, hb, r⟩ := S.bag
  have no : ∀ (a : Addr) (o : HO), ¬ X a → H a = some o → ¬ X' a := fun a o n h z => by
    rcases sub _ z with z | z
    · exact n z
    · rw [h] at z
      cases z
  refine ⟨X', ⟨fun a o h => off a o (fun z => by rw [S.xn a z] at h; cases h) (S.x0 a o h), ⟨x, y, off _ _ S.xb hb, r⟩, S.nb, ⟨S.ky.ne, off _ _ S.xk S.ky.h, S.ky.bd, S.ky.few, S.ky.some⟩, S', no _ _ S.xb hb, no _ _ S.xk S.ky.h, fun a z => ?_, (Off.kt S.hs.noT off).tp S.tp, off _ _ S.xo S.so, no _ _ S.xo S.so, S.on⟩, off⟩
  rcases sub a z with z | z
  · exact S.xn a z
  · exact fresh_back S.x0 z
theorem put_kt {kvs' : List (Key × V)} (h : H o = some (.dK kvs)) : Kt H (upd H o (.dK kvs')) := Kt.but (fun a => a = o) (fun a e => by
  subst e
  exact ⟨_, h, (fun xs z => by cases z), fun o xs z => by cases z⟩) fun a u n h => by
  rw [upd_ne n]
  exact h
theorem LS.put {kvs' : List (Key × V)} (S : LS K C R H0 b lk p tb o ks rs m X kvs H) : LS K C R H0 b lk p tb o ks rs m X kvs' (upd H o (.dK kvs')) := by
  obtain ⟨x, y, hb, r⟩ := S.bag
  have ne : ∀ (a : Addr) (u : HO), (∀ kvs, u ≠ .dK kvs) → H a = some u → a ≠ o := fun a u n h e => by
    rw [e, S.so] at h
    cases h
    exact n _ rfl
  refine ⟨fun a u h => ?_, ⟨x, y, ?_, r⟩, S.nb, ⟨S.ky.ne, ?_, S.ky.bd, S.ky.few, S.ky.some⟩, S.hs.keep (fun a u xa h => ?_) (put_kt S.so), S.xb, S.xk, S.xn, (put_kt S.so).tp S.tp, upd_same, S.xo, S.on⟩
  · rw [upd_ne fun e => by rw [e, S.on] at h; cases h]
    exact S.x0 a u h
  · rw [upd_ne (ne _ _ (fun kvs z => by cases z) hb)]
    exact hb
  · rw [upd_ne (ne _ _ (fun kvs z => by cases z) S.ky.h)]
    exact S.ky.h
  · rw [upd_ne fun e => S.xo (by rw [← e]; exact xa)]
    exact h
end
section
variable {P : Program} {w : World} {K : PySem.W.Frag} {mg : Str → Option Value} {base : Heap}
set_option maxHeartbeats 8000000 in
theorem ok_law {f C R CN CL CP CT fI : Addr} {fd fdI : FuncData} {kT kB kTab kKs kSp kTr kAt kMk kMo kOd kLi kHo kTa kPl kEn kI k : Nat} (F : Fun K "law" "law" sLaw f fd) (N : Names mg) (T : HTx K mg C) (mkH : Mk K C fI) (FI : FnOk P w K mg base (L2N.CX P w) kI fI fdI ["self", "table"] (spHInit K C CN)) (hI : kI + 1 ≤ k) (bI : Binds K fdI ["self", "table"] []) (dT : Own P w K mg base "_law_take" ["bag", "man1"] kT spTake) (hT : kT ≤ k) (dB : Own P w K mg base "_law_bag" ["script", "k"] kB (spBag K)) (hB : kB ≤ k) (dTab : Own P w K mg base "_law_table" ["bag", "keys"] kTab (spTabR K)) (hTab : kTab ≤ k) (dKs : Own P w K mg base "_law_keys" ["bag"] kKs spKeysR) (hKs : kKs ≤ k) (dSp : Own P w K mg base "_law_house_step" ["bag", "house", "keys"] kSp (spStep K C R)) (hSp : kSp ≤ k) (dTr : Own P w K mg base "_law_house_tried" ["house", "step"] kTr (spTriedH K C R)) (hTr : kTr ≤ k) (dAt : Own P w K mg base "_law_at" ["table", "log", "place"] kAt (spAt K)) (hAt : kAt ≤ k) (dMk : Own P w K mg base "_law_marks_at" ["log", "number"] kMk (spMk K)) (hMk : kMk ≤ k) (dMo : Own P w K mg base "moments" ["table", "log", "low", "high", "stretch", "rows"] kMo (spMo K)) (hMo : kMo ≤ k) (dOd : Own P w K mg base "odd" ["table", "log", "low", "high", "stretch", "rows"] kOd (spOdd K)) (hOd : kOd ≤ k) (dLi : MethX P w K mg base C "life" ["self"] kLi (spLif K C R)) (hLi : kLi ≤ k) (dHo : MethX P w K mg base C "hold" ["self", "life", "place"] kHo (spHold K C R CL CP)) (hHo : kHo ≤ k) (dTa : MethX P w K mg base C "table" ["self"] kTa (spTbl K C R)) (hTa : kTa ≤ k) (dPl : MethX P w K mg base C "places" ["self"] kPl (spPls K C R)) (hPl : kPl ≤ k) (dEn : MethXN P w K mg base C "entries" ["self", "place", "many"] 1 ["many"] kEn (spEnt K C R CP CT)) (hEn : kEn ≤ k) : FnOk P w K mg base CX0 (k + 1) f fd ["script"] (spLaw K) := by
  refine F.ok scLaw (fun vs H Q E h => ?_) (fun cdv A outer s H vs Q E hr h => ?_)
  · obtain ⟨a, ns, rfl, _⟩ := h
    rfl
  · obtain ⟨a, ns, rfl, hs, few, q⟩ := h
    refine ⟨_, pss_cons (ps_for PassesOwn.never rfl (pi_range1 rfl N.range (pa_cons (pe_op op_add pe_int (pe_callB (call_min2 rfl) (by rfl) N.min boot_min (pa_cons (pe_callB call_len_seq (by rfl) N.len PySem.boot_len (pa_cons (pv 0) pa_nil)) (pa_cons pe_int pa_nil)))) pa_nil)) (pg_name (i := 1) scLaw.nd rfl (.inl rfl)) (pss_cons (ps_set (i := 2) scLaw.nd rfl (.inl rfl) (pe_own dB hr hB (by rfl) (pa_cons (pv 0) (pa_cons (pv 1) pa_nil))))
      (pss_cons (ps_set (i := 3) scLaw.nd rfl (.inl rfl) (pe_own dKs hr hKs (by rfl) (pa_cons (pv 2) pa_nil)))
      (pss_cons (ps_set (i := 4) scLaw.nd rfl (.inl rfl) (pe_own dTab hr hTab (by rfl) (pa_cons (pv 2) (pa_cons (pv 3) pa_nil))))
      (pss_cons (ps_set (i := 5) scLaw.nd rfl (.inl rfl) (pe_makeX mkH FI none_out hr hI (by rfl) T.mgC bI .nil (pa_cons (pv 4) pa_nil)))
      (pss_cons (ps_expr (pe_methX0 dLi none_out hr hLi T.cl (pv 5)))
      (pss_cons (ps_expr (pe_methX dHo none_out hr hHo T.cl (pv 5) (pa_cons (pe_methX0 dLi none_out hr hLi T.cl (pv 5)) (pa_cons pe_int pa_nil))))
      (pss_cons (ps_set (i := 6) scLaw.nd rfl (.inl rfl) pe_dnewK)
      (pss_one (ps_for PassesOwn.never rfl (pi_range1 rfl N.range (pa_cons (pe_op op_add pe_int (pe_own dT hr hT (by rfl) (pa_cons (pv 2) (pa_cons pe_int pa_nil)))) pa_nil)) (pg_name (i := 7) scLaw.nd rfl (.inl rfl)) (pss_cons (ps_set (i := 8) scLaw.nd rfl (.inl rfl) (pe_own dSp hr hSp (by rfl) (pa_cons (pv 2) (pa_cons (pv 5) (pa_cons (pv 3) pa_nil)))))
      (pss_one (ps_if (pt_cmpR op_ne (pe_ix ix_tup (pv 8) pe_int (fun _ _ => rfl)) pe_str (nomark _)) (pss_cons (ps_asg (pe_own dTr hr hTr (by rfl) (pa_cons (pv 5) (pa_cons (pv 8) pa_nil))) (pg_tup rfl (pgs_cons (pg_name (i := 9) scLaw.nd rfl (.inl rfl)) (pgs_cons (pg_name (i := 10) scLaw.nd rfl (.inl rfl)) (pgs_cons (pg_name (i := 11) scLaw.nd rfl (.inl rfl)) pgs_nil)))))
      (pss_cons (ps_if (PW.pt (pw_and (pt_cmpR op_eq (pe_ix ix_tup (pv 8) pe_int (fun _ _ => rfl)) pe_str (nomark _)) (pw_and1 (pt_cmpR op_eq (pv 10) pe_str (nomark _))))) (pss_one (ps_dput (hu_of hr) (pv 6) (pv 9) (pe_slice sl_tupA (pv 8) (po_some pe_int) po_none) rfl)) pss_nil)
      (pss_cons (ps_set (i := 12) scLaw.nd rfl (.inl rfl) (pe_methXN dEn none_out hr hEn T.cl (pv 5) (pa_cons pe_int pa_nil) (pk_cons pe_int pk_nil)))
      (pss_cons (ps_if (PW.pt (pw_or (pt_cmpR (op_neD hr.units) (pe_methX0 dTa none_out hr hTa T.cl (pv 5)) (pe_own dAt hr hAt (by rfl) (pa_cons (pv 4) (pa_cons (pv 12) (pa_cons (pe_callB call_len_seq (by rfl) N.len PySem.boot_len (pa_cons (pv 12) pa_nil)) pa_nil)))) (nomark _)) (pw_or1 (pt_cmpR (op_neD hr.units) (pe_methX0 dPl none_out hr hPl T.cl (pv 5)) (pe_tup (pa_cons pe_int (pa_cons (pe_callB call_len_seq (by rfl) N.len PySem.boot_len (pa_cons (pv 12) pa_nil)) pa_nil))) (nomark _))))) (pss_one (ps_ret pe_bl)) pss_nil)
      (pss_one (ps_if (PW.pt (pw_and (pt_cmpR op_eq (pe_ix ix_tup (pv 8) pe_int (fun _ _ => rfl)) pe_str (nomark _)) (pw_and1 (pt_cmpR op_eq (pv 10) pe_str (nomark _))))) (pss_cons (ps_asg (pe_own dMk hr hMk (by rfl) (pa_cons (pv 12) (pa_cons (pe_ix ix_tup (pv 8) pe_int (fun _ _ => rfl)) pa_nil))) (pg_tup rfl (pgs_cons (pg_name (i := 13) scLaw.nd rfl (.inl rfl)) (pgs_cons (pg_name (i := 14) scLaw.nd rfl (.inl rfl)) pgs_nil))))
      (pss_cons (ps_set (i := 15) scLaw.nd rfl (.inl rfl) (pe_dget (hu_of hr) (pv 6) (pe_ix ix_tup (pv 8) pe_int (fun _ _ => rfl)) (fun _ _ => rfl)))
      (pss_cons (ps_if (pt_cmpR op_gt (pv 13) (pv 14) (nomark _)) (pss_one (ps_ret pe_bl)) pss_nil)
      (pss_cons (ps_if (pt_cmpR op_isN1 (pe_own dMo hr hMo (by rfl) (pa_cons (pv 4) (pa_cons (pv 12) (pa_cons (pv 13) (pa_cons (pv 14) (pa_cons (pv 15) (pa_cons (pv 9) pa_nil))))))) pe_non (nomark _)) (pss_one (ps_ret pe_bl)) pss_nil)
      (pss_one (ps_if (pt_cmpR op_notN1 (pe_own dOd hr hOd (by rfl) (pa_cons (pv 4) (pa_cons (pv 12) (pa_cons (pv 13) (pa_cons (pv 14) (pa_cons (pv 15) (pa_cons (pv 9) pa_nil))))))) pe_non (nomark _)) (pss_one (ps_ret pe_bl)) pss_nil)))))) pss_nil)))))) pss_nil)))))))))))))
      (pss_one (ps_ret pe_bl)), ?_⟩
    have hmn : 0 ≤ 1 + (if (5 : Int) < ((ns.map V.int).length : Int) then (5 : Int) else ((ns.map V.int).length : Int)) ∧ 1 + (if (5 : Int) < ((ns.map V.int).length : Int) then (5 : Int) else ((ns.map V.int).length : Int)) ≤ 100 := by
      split <;> omega
    refine s_seq (s_forR1 (n := 1 + (if (5 : Int) < ((ns.map V.int).length : Int) then (5 : Int) else ((ns.map V.int).length : Int))) (ea_cons (ev_op ev_c (ev_min2 (ev_len (ev_var rfl) hs) ev_c) rv_add) ea_nil) ⟨hmn.1, by omega⟩
      (fun i σ' H' => ∃ y1 y2 y3 y4 y5 y6 y7 y8 y9 y10 y11 y12 y13 y14 y15, σ' = [some (.ref a), y1, y2, y3, y4, y5, y6, y7, y8, y9, y10, y11, y12, y13, y14, y15] ∧ SqL K H' a (ns.map V.int)) (fun H1 x1 => ⟨none, none, none, none, none, none, none, none, none, none, none, none, none, none, none, rfl, ex_l x1 hs⟩) (fun i σ' H0 hi p => ?_) (fun σ' H' p => ?_))
    · obtain ⟨y1, y2, y3, y4, y5, y6, y7, y8, y9, y10, y11, y12, y13, y14, y15, rfl, hA'⟩ := p
      have hi2 : i ≤ 1000 := by omega
      refine s_seq ⟨.ref a, rfl, .int (i : Int), rfl, a, ns, i, rfl, hA', hi2, fun b H1 nb x1 hB1 => ?_⟩
      refine g_name (s_seq ⟨.ref b, rfl, b, rfl, hB1, fun lk ks H2 f2 ky k64 kup => g_name ?_⟩)
      try dsimp only
      refine s_seq ⟨.ref b, rfl, .ref lk, rfl, b, lk, ks, rfl, f2.bag, ky, fun tb rs H3 f3 tp rk rw' rl rup => g_name ?_⟩
      have f13 := f2.trans f3
      have xG : Ex H0 H3 := fun c o h => f13.at (x1 c o h) (ne_of_none h nb)
      have ok : RsOk rs := ⟨rup kup, fun r m => by
        have h1 := ky.bd _ (rk r m)
        have h2 := rw' r m
        exact ⟨h1.1, h1.2, h2.1, h2.2⟩, by omega⟩
      have rin : ∀ r ∈ rs, r.1 ∈ allKs := fun r m => by
        have h1 := ky.bd _ (rk r m)
        exact allKs_mem h1.1 h1.2
      have kf := ky.fr f3
      have bag3 := f3.bag
      try dsimp only
      refine s_seq (t_asg ⟨.ref tb, rfl, fun p dx np ndx dp => ?_⟩)
      have xb : Ex H3 (upd (upd H3 dx (.own p)) p (.ins C dx [])) := (Ex.new ndx).trans (Ex.new (by rw [upd_ne dp.symm]; exact np))
      refine ⟨p, dx, .ref tb, rowsD rs, rfl, upd_same, dp_same xb _ _ tp.dp, (fun bad => by rw [table_ok ok] at bad; cases bad), fun rs' dW dK dL dR' kvs G2 e _ ok' keep S di nn => ⟨rfl, g_name ?_⟩⟩
      obtain rfl := rowsD_inj e
      have x2 : Ex H3 G2 := fun c o h => keep c o (ne_of_none h np) (xb c o h)
      obtain ⟨X, S1, fx1⟩ : ∃ X : Addr → Prop, HsM K C R G2 p ⟨fRows rs, [], 0, 0, 0, [], []⟩ X ∧ ∀ a, X a → H3 a = none := ⟨_, hs_new S di, fun a ha => by
        simp only [fpL, List.flatMap_nil, List.mem_cons, List.not_mem_nil, or_false] at ha
        rcases ha with rfl | rfl | rfl | rfl | rfl
        · exact np
        · exact fresh_back xb nn.1
        · exact fresh_back xb nn.2.1
        · exact fresh_back xb nn.2.2.1
        · exact fresh_back xb nn.2.2.2⟩
      clear keep S di nn xb e
      clear kvs dW dK dL dR'
      try dsimp only
      have S2 : L0 K C R H0 b lk p tb ks rs ⟨fRows rs, [], 0, 0, 0, [], []⟩ X G2 := by
        obtain ⟨bx, bY, hb, br⟩ := bag3
        have q1 : ∀ (c : Addr) (u : HO), H3 c = some u → ¬ X c := fun c u h z => by
          rw [fx1 _ z] at h
          cases h
        exact ⟨xG.trans x2, ⟨bx, bY, x2 _ _ hb, br⟩, nb, ⟨kf.ne, x2 _ _ kf.h, kf.bd, kf.few, kf.some⟩, S1, q1 _ _ hb, q1 _ _ kf.h, fun c z => fresh_back xG (fx1 c z), (Kt.ex x2).tp tp⟩
      clear S1 fx1 x2 np ndx dp tp rk rw' rl rup ok ok' xG f13 f2 f3 ky kf bag3 x1 hB1
      -- two lives, one of which holds
      obtain ⟨dx, fs, hp, hno⟩ := hs_ob S2.hs "life" (by decide +kernel)
      refine s_seq ⟨.ref p, rfl, p, dx, fs, rfl, hp, hno, p, _, X, rfl, S2.hs, Nat.zero_le _, fun G3 q3 => ?_⟩
      obtain ⟨X3, S3⟩ := S2.out q3
      clear q3 hp hno
      obtain ⟨dx, fs, hp, hno⟩ := hs_ob S3.hs "hold" (by decide +kernel)
      obtain ⟨dx', fs', hp', hno'⟩ := hs_ob S3.hs "life" (by decide +kernel)
      refine s_seq ⟨.ref p, rfl, p, dx, fs, rfl, hp, hno, .ref p, rfl, p, dx', fs', rfl, hp', hno', p, _, X3, rfl, S3.hs, (by show 0 + 1 ≤ 10000; decide), fun G4 q4 => ?_⟩
      obtain ⟨X4, S4⟩ := S3.out q4
      clear q4 hp hno hp' hno'
      refine ⟨p, _, X4, _, 0, rfl, S4.hs, small_log (by show -2 ≤ ((1 : Nat) : Int) + 1 ∧ ((1 : Nat) : Int) + 1 ≤ 1000000; omega), small_log (by omega), (by show 0 + 1 + 1 ≤ 10000; decide), (fun z => absurd (by simp) z), (fun _ z => absurd ⟨Int.le_refl _, by simp⟩ z), fun _ _ G5 q5 => ?_⟩
      obtain ⟨X5, S5⟩ := S4.out q5
      clear q5 S4 S3 S2
      obtain ⟨m5, hm5⟩ : ∃ m5 : HM, m5 = { ({ ({ f := fRows rs, log := [], fk := 0, lg := 0 + 1, bg := 0, liv := [] ++ [(((0 : Nat) : Int) + 1, none)], run := [] } : HM) with lg := 0 + 1 + 1, liv := ([] ++ [(((0 : Nat) : Int) + 1, none)]) ++ [(((0 + 1 : Nat) : Int) + 1, none)] } : HM) with liv := setL (([] ++ [(((0 : Nat) : Int) + 1, none)]) ++ [(((0 + 1 : Nat) : Int) + 1, none)]) (((0 + 1 : Nat) : Int) + 1) 0 } := ⟨_, rfl⟩
      have S5' : L0 K C R H0 b lk p tb ks rs m5 X5 G5 := by rw [hm5]; exact S5
      have W5 : WG rs m5 := by
        rw [hm5]
        exact ⟨rfl, rfl, (fun d md => by cases md), fun x mx => by cases mx⟩
      have l5 : m5.lg ≤ 2 ∧ m5.bg ≤ 0 ∧ m5.log.length ≤ 0 ∧ m5.run = [] := by
        rw [hm5]
        exact ⟨(by show 0 + 1 + 1 ≤ 2; decide), Nat.le_refl 0, Nat.le_refl 0, rfl⟩
      clear S5 hm5
      try dsimp only
      refine s_seq fun o no => g_name ?_
      have S6 : LS K C R H0 b lk p tb o ks rs m5 X5 [] (upd G5 o (.dK [])) := by
        have x6 : Ex G5 (upd G5 o (.dK [])) := Ex.new no
        refine ⟨S5'.x0.trans x6, (Fr.ex S5'.bag x6).bag, S5'.nb, S5'.ky.fr (Fr.ex S5'.bag x6), S5'.hs.ex x6, S5'.xb, S5'.xk, S5'.xn, (Kt.ex x6).tp S5'.tp, upd_same, fun z => ?_, fresh_back S5'.x0 no⟩
        obtain ⟨u, h, _⟩ := S5'.hs.noT o z
        rw [no] at h
        cases h
      clear S5' no
      generalize upd G5 o (.dK []) = G6 at S6 ⊢
      try dsimp only
      refine for_drawC (b := b) (c := 10) (m := 61) (fun n σ' G => ∃ m X kvs z7 z8 z9 z10 z11 z12 z13 z14 z15, σ' = [some (.ref a), some (.int (i : Int)), some (.ref b), some (.ref lk), some (.ref tb), some (.ref p), some (.ref o), z7, z8, z9, z10, z11, z12, z13, z14, z15] ∧ LS K C R H0 b lk p tb o ks rs m X kvs G ∧ SSt K G kvs m ∧ WG rs m ∧ m.lg ≤ n + 2 ∧ m.bg ≤ n ∧ m.log.length ≤ n ∧ kvs.length ≤ n) S6.bag rfl (by decide) (by decide) (by decide) (by decide) (fun G5 f5 => ⟨m5, X5, [], _, _, _, _, _, _, _, _, _, rfl, S6.fr f5, (fun x mx => by rw [l5.2.2.2] at mx; cases mx), W5, l5.1, l5.2.1, l5.2.2.1, Nat.le_refl _⟩) (fun n σ' G hn hP => ?_) fun n σ' G hn hP => ?_
      · clear S6 W5 l5
        obtain ⟨m, X, kvs, z7, z8, z9, z10, z11, z12, z13, z14, z15, rfl, S, sst, W, c1, c2, c3, c4⟩ := hP
        have n71 : n ≤ 71 := by omega
        have few : HFew m := ⟨by omega, by omega, by omega, by rw [W.fk]; omega⟩
        try dsimp only
        refine s_seq ⟨.ref b, rfl, .ref p, rfl, .ref lk, rfl, b, p, lk, ks, m, X, rfl, S.bag, S.ky, S.hs, S.xb, few, fun sp st vs G1 f1 hst du ok nls => g_name ?_⟩
        have S1 := S.fr f1
        have sst1 := sst.kt (Kt.fr S.bag f1)
        clear S sst
        obtain ⟨rest, hrest⟩ := st_head du
        try dsimp only
        refine s_if (et_test (ev_op (ev_ix0 (ev_var rfl) (hrest ▸ hst)) ev_c (rv_ne rfl))) (fun nt G2 x2 => ?_) fun _ G2 x2 => s_next ⟨m, X, kvs, _, _, _, _, _, _, _, _, _, rfl, S1.ex x2, sst1.kt (Kt.ex x2), W, by omega, by omega, by omega, by omega⟩
        have nt' := w_trim sp nt
        have S2 := S1.ex x2
        have sst2 := sst1.kt (Kt.ex x2)
        have hst2 := Evl.ex_t x2 hst
        have du2 := dps_same x2 _ _ du
        clear S1 sst1 hst du nt
        -- the call
        refine seq_mid (fun σ' G => ∃ m' X' fnd kd fl, σ' = [some (.ref a), some (.int (i : Int)), some (.ref b), some (.ref lk), some (.ref tb), some (.ref p), some (.ref o), some (.int (0 + (n : Int))), some (.ref st), some fnd, some (.str kd), some fl, z12, z13, z14, z15] ∧ LS K C R H0 b lk p tb o ks rs m' X' kvs G ∧ SSt K G kvs m ∧ SqT K G st vs ∧ ((kd = "" ∧ ∃ r, hdo m sp = .ok m' r ∧ Dp K G fnd r) ∨ (kd ≠ "" ∧ m' = m))) (fun go => ?_) fun σ' G hR => ?_
        · refine s_seq ⟨.ref p, rfl, .ref st, rfl, p, st, m, X, sp, vs, rfl, S2.hs, few, hst2, du2, ok, fun m' r e t5 v G5 q5 hv h5 => ⟨t5, _, rfl, st_of h5, rfl, _, _, rfl, _, _, rfl, _, _, rfl, rfl, ?_⟩, fun r io e t5 G5 x5 h5 => ⟨t5, _, rfl, st_of h5, rfl, _, _, rfl, _, _, rfl, _, _, rfl, rfl, ?_⟩⟩
          · obtain ⟨X', S5, off⟩ := S2.out q5
            have kt := Off.kt S2.hs.noT off
            exact go _ _ ⟨m', X', v, "", .non, rfl, S5, sst2.kt kt, kt.t hst2, .inl ⟨rfl, r, e, hv⟩⟩
          · exact go _ _ ⟨m, X, .non, rfT r, iV io, rfl, S2.ex x5, sst2.kt (Kt.ex x5), Evl.ex_t x5 hst2, .inr ⟨rf_ne r, rfl⟩⟩
        have rb := (hs_run S2.hs).2
        have hx_ok : ∀ {x}, x ∈ m.run → RgOk x := by
          obtain ⟨dW, dK, dL, dR, kvs, kept, l, B, fx⟩ := S2.hs
          exact fun {x} mx => B.rk x mx
        clear S2 sst2 hst2
        obtain ⟨m', X', fnd, kd, fl, rfl, S3, sst3, hst3, hcase⟩ := hR
        have kde : ∀ {G : Hp} {σ : L2.St}, σ[10]? = some (some (.str kd)) → EvT (tTest (tOp rEq (tVar 10) (tC (.str "")))) σ G (decide (kd = "")) := fun h => et_is (et_test (ev_op (ev_var h) ev_c (rv_eq rfl))) (by simp)
        have W' : WG rs m' ∧ m'.lg ≤ m.lg + 1 ∧ m'.bg ≤ m.bg + 1 ∧ m'.log.length ≤ m.log.length + 1 := by
          rcases hcase with ⟨_, r, e, _⟩ | ⟨_, rfl⟩
          · obtain ⟨new, n1, _, _, el, g1, g2⟩ := hdo_log e
            refine ⟨W.step rb e nt', g1, g2, ?_⟩
            rw [el, List.length_append, List.length_drop]
            omega
          · exact ⟨W, Nat.le_succ _, Nat.le_succ _, Nat.le_succ _⟩
        try dsimp only
        have hst3' := hrest ▸ hst3
        -- its stretch is kept
        refine seq_mid (fun σ' G => ∃ kvs', σ' = [some (.ref a), some (.int (i : Int)), some (.ref b), some (.ref lk), some (.ref tb), some (.ref p), some (.ref o), some (.int (0 + (n : Int))), some (.ref st), some fnd, some (.str kd), some fl, z12, z13, z14, z15] ∧ LS K C R H0 b lk p tb o ks rs m' X' kvs' G ∧ SSt K G kvs' m ∧ SSt K G kvs' m' ∧ kvs'.length ≤ n + 1 ∧ SqT K G st vs ∧ (kd = "" → ∀ i, sp = .finish i → ∃ r, hdo m (.finish i) = .ok m' r ∧ Dp K G fnd r)) (fun go => ?_) fun σ' G hR => ?_
        · cases hbe : isBe sp with
          | false =>
            refine s_seq (s_if (b := false) (et_is (et_and (a := false) (b := false) (et_is (et_test (ev_op (ev_ix0 (ev_var rfl) hst3') ev_c (rv_eq rfl))) ((w_begin sp).trans hbe)) fun z => by cases z) rfl) (fun z => by cases z) fun _ G6 x6 => s_next (go _ _ ⟨kvs, rfl, S3.ex x6, sst3.kt (Kt.ex x6), ?_, by omega, Evl.ex_t x6 hst3, fun hk i hs => ?_⟩))
            · rcases hcase with ⟨_, r, e, _⟩ | ⟨_, rfl⟩
              · exact (sst3.kt (Kt.ex x6)).run e hbe
              · exact sst3.kt (Kt.ex x6)
            · rcases hcase with ⟨_, r, e, dr⟩ | ⟨hn, _⟩
              · rw [hs] at e
                exact ⟨r, e, dp_same x6 _ _ dr⟩
              · exact absurd hk hn
          | true =>
            cases sp with
            | begin i' a' b' =>
              obtain rfl := st_begin du2
              rcases hcase with ⟨rfl, r, e, dr⟩ | ⟨hn, rfl⟩
              · obtain ⟨er, rfl⟩ := hdo_begin e
                cases dr
                refine s_seq (s_if (b := true) (et_is (et_and (a := true) (b := true) (et_is (et_test (ev_op (ev_ix0 (ev_var rfl) hst3) ev_c (rv_eq rfl))) (by decide +kernel)) fun _ => et_is (kde rfl) (by decide +kernel)) rfl) (fun _ G6 x6 => ?_) fun z => by cases z)
                have S6 := S3.ex x6
                refine ⟨.ref st, rfl, 2, rfl, st, _, rfl, Evl.ex_t x6 hst3, fun w => absurd w.1 (by show ¬ HT.sIx 4 0 (some 2) = 0; decide), fun _ t nt => ?_⟩
                have S7 := S6.ex (Ex.new nt (o := .tup (cutV [V.str "begin", .int i', .int a', .int b'] (some 2) none)))
                have ht7 : SqT K (upd G6 t (.tup (cutV [V.str "begin", .int i', .int a', .int b'] (some 2) none))) t [.int a', .int b'] := st_of upd_same
                have kt7 := (Kt.ex x6).trans (Kt.ex (Ex.new nt (o := .tup (cutV [V.str "begin", .int i', .int a', .int b'] (some 2) none))))
                generalize upd G6 t (.tup (cutV [V.str "begin", .int i', .int a', .int b'] (some 2) none)) = G7 at S7 ht7 kt7 ⊢
                have kt8 : Kt G7 (upd G7 o (.dK (putK kvs (.inl (m.bg : Int)) (.ref t)))) := put_kt S7.so
                have sm : SSt K (upd G7 o (.dK (putK kvs (.inl (m.bg : Int)) (.ref t)))) (putK kvs (.inl (m.bg : Int)) (.ref t)) m := fun x mx => by
                  obtain ⟨t', h1, h2⟩ := sst3 x mx
                  refine ⟨t', ?_, (kt7.trans kt8).t h2⟩
                  rw [valV_put, if_neg fun z => by have := Sum.inl.inj z; have := (rb x mx).2; omega]
                  exact h1
                refine ⟨.ref o, rfl, .int (m.bg : Int), rfl, o, _, rfl, DPut.k (k := .inl (m.bg : Int)) S7.so (sz_lt (by omega)), go _ _ ⟨putK kvs (.inl (m.bg : Int)) (.ref t), rfl, S7.put, sm, fun x mx => ?_, Nat.le_trans (len_put _ _ _) (by omega), (kt7.trans kt8).t hst3, fun _ i hs => by cases hs⟩⟩
                rw [er] at mx
                rcases List.mem_append.mp mx with mx | mx
                · exact sm x mx
                · rw [List.mem_singleton.mp mx]
                  refine ⟨t, ?_, kt8.t ht7⟩
                  rw [valV_put, if_pos rfl]
              · refine s_seq (s_if (b := false) (et_is (et_and (a := true) (b := false) (et_is (et_test (ev_op (ev_ix0 (ev_var rfl) hst3) ev_c (rv_eq rfl))) (by decide +kernel)) fun _ => et_is (kde rfl) (decide_eq_false hn)) rfl) (fun z => by cases z) fun _ G6 x6 => s_next (go _ _ ⟨kvs, rfl, S3.ex x6, sst3.kt (Kt.ex x6), sst3.kt (Kt.ex x6), by omega, Evl.ex_t x6 hst3, fun hk => absurd hk hn⟩))
            | _ => cases hbe
        clear S3 sst3 hst3 hst3' hcase
        obtain ⟨kvs', rfl, S4, ssm, ssm', len', hst4, hfin⟩ := hR
        obtain ⟨W1, g1, g2, g3⟩ := W'
        have fk' := W1.fk
        have fk0 : (m'.fk : Int) = 0 := by rw [fk']; rfl
        have lgood : ∀ d ∈ m'.log, goodEn allKs d = true := by
          obtain ⟨dW, dK, dL, dR, kvs, kept, l, B, fx⟩ := S4.hs
          exact B.go
        -- the log
        try dsimp only
        obtain ⟨dx, fs, hp, hno⟩ := hs_ob S4.hs "entries" (by decide +kernel)
        refine s_seq (t_asg ⟨.ref p, rfl, p, dx, fs, rfl, hp, hno, rfl, rfl, p, m', X', 0, 400, rfl, S4.hs, small_log (by omega), by omega, (fun c => by omega), (fun c1 c2 => by omega), fun _ _ Lg ls G10 nL x10 h10 d10 => g_name ?_⟩)
        have en : ((m'.log.drop ((0 : Int) - (m'.fk : Int)).toNat).take (400 : Int).toNat) = m'.log := by
          rw [fk0]
          exact List.take_of_length_le (by show m'.log.length ≤ 400; omega)
        rw [en] at d10
        have lg : LogAt K G10 Lg allKs m'.log := ⟨⟨ls, sq_of h10, d10⟩, lgood⟩
        have ll := dps_len d10
        have S5 := S4.ex x10
        have ssm5 := ssm.kt (Kt.ex x10)
        have ssm5' := ssm'.kt (Kt.ex x10)
        have hst5 := Evl.ex_t x10 hst4
        have hfin5 : kd = "" → ∀ i, sp = .finish i → ∃ r, hdo m (.finish i) = .ok m' r ∧ Dp K G10 fnd r := fun hk i hs => by
          obtain ⟨r, e, dr⟩ := hfin hk i hs
          exact ⟨r, e, dp_same x10 _ _ dr⟩
        clear S4 ssm ssm' hst4 hfin x10 hp hno en
        -- table and places
        try dsimp only
        obtain ⟨dx, fs, hp, hno⟩ := hs_ob S5.hs "table" (by decide +kernel)
        refine s_seq ⟨.ref p, rfl, p, dx, fs, rfl, hp, hno, p, m', X', rfl, S5.hs, fun t1 js1 G11 nt1 x11 kf1 tp1 => ?_⟩
        refine (ea_cons (ev_var rfl) (ea_cons (ev_var rfl) (ea_cons (ev_is (ev_len (ev_var rfl) (sq_of (x11 _ _ h10))) (by rw [ll])) ea_nil))) G11 (Ex.refl G11) _ fun G12 x12 => ⟨tb, Lg, rs, allKs, m'.log, m'.log.length, rfl, (Kt.ex (x11.trans x12)).tp S5.tp, rin, (by rw [allKs_len]; exact Nat.le_refl _), lg.same (x11.trans x12), by omega, Nat.le_refl _, fun t2 js2 G13 nt2 x13 kf2 _ tp2 => ?_⟩
        have x15 := (x11.trans x12).trans x13
        have ej : rowsOf m'.f js1 = rowsOf (worthsAt rs m'.log m'.log.length) js2 := by
          rw [← W1.now] at kf2 ⊢
          rw [KeysOf.one kf1 kf2]
        rw [← ej] at tp2
        have S7 := S5.ex x15
        obtain ⟨dx, fs, hp7, hno7⟩ := hs_ob S7.hs "places" (by decide +kernel)
        refine ne_raw (n := 2) (tp1.same (x12.trans x13)).dp tp2.dp (sd_rows _) (by decide) ⟨_, rfl, ite2 (fun z => by cases z) fun _ => ⟨.ref p, rfl, p, dx, fs, rfl, hp7, hno7, p, m', X', rfl, S7.hs, fun t3 G14 nt3 x14 h14 => ?_⟩⟩
        rw [fk0, Int.zero_add] at h14
        refine (ea_cons ev_c (ea_cons (ev_is (ev_len (ev_var rfl) (sq_of (x14 _ _ (x15 _ _ h10)))) (by rw [ll])) ea_nil)) G14 (Ex.refl G14) _ fun G16 x16 => ⟨sz_of (by simp), fun t4 nt4 => ne_raw (n := 1) (d := .tuple [.int 0, .int (m'.log.length : Int)]) (.tup (st_of ((Ex.new nt4) _ _ (x16 _ _ h14))) (.cons (.int _) (.cons (.int _) .nil))) (.tup (st_of upd_same) (.cons (.int _) (.cons (.int _) .nil))) rfl (by decide) ⟨_, rfl, ite2 (fun z => by cases z) fun _ => s_next ?_⟩⟩
        have x17 := ((x15.trans x14).trans x16).trans (Ex.new nt4 (o := .tup [.int 0, .int (m'.log.length : Int)]))
        have S8 := S5.ex x17
        have ssm8 := ssm5.kt (Kt.ex x17)
        have ssm8' := ssm5'.kt (Kt.ex x17)
        have hst8 := Evl.ex_t x17 hst5
        have h8 := x17 _ _ h10
        have lg8 := lg.same x17
        have d8 := dps_same x17 _ _ d10
        have hfin8 : kd = "" → ∀ i, sp = .finish i → ∃ r, hdo m (.finish i) = .ok m' r ∧ Dp K _ fnd r := fun hk i hs => by
          obtain ⟨r, e, dr⟩ := hfin5 hk i hs
          exact ⟨r, e, dp_same x17 _ _ dr⟩
        clear S5 ssm5 ssm5' hst5 hfin5 h10 lg d10 h14 tp1 tp2 kf1 kf2 S7 hp7 hno7 hp hno
        generalize upd G16 t4 (.tup [V.int 0, .int (m'.log.length : Int)]) = G8 at S8 ssm8 ssm8' hst8 h8 lg8 d8 hfin8 ⊢
        clear x17 nt4 x16 x14 x15 x13 x12 x11
        have hst8' := hrest ▸ hst8
        try dsimp only
        cases hfi : isFi sp with
        | none =>
          exact s_if (b := false) (et_is (et_and (a := false) (b := false) (et_is (et_test (ev_op (ev_ix0 (ev_var rfl) hst8') ev_c (rv_eq rfl))) ((w_finish sp).trans (by rw [hfi]; rfl))) fun z => by cases z) rfl) (fun z => by cases z) fun _ G9 x9 => s_next ⟨m', X', kvs', _, _, _, _, _, _, _, _, _, rfl, S8.ex x9, ssm8'.kt (Kt.ex x9), W1, by omega, by omega, by omega, len'⟩
        | some i0 =>
          obtain rfl : sp = .finish i0 := by
            cases sp <;> cases hfi
            rfl
          obtain rfl := st_finish du2
          by_cases hk : kd = ""
          · refine s_if (b := true) (et_is (et_and (a := true) (b := true) (et_is (et_test (ev_op (ev_ix0 (ev_var rfl) hst8) ev_c (rv_eq rfl))) (by decide +kernel)) fun _ => et_is (kde rfl) (decide_eq_true hk)) rfl) (fun _ G9 x9 => ?_) fun z => by cases z
            obtain ⟨r, e, dr⟩ := hfin8 hk i0 rfl
            obtain ⟨x, pre, post, oo, mx, ex, er, el, p1, p2, lt⟩ := W.fin e
            subst er
            obtain ⟨ts, hv, hts⟩ := ssm8 x mx
            rw [ex] at hv
            have S9 := S8.ex x9
            have rk := hx_ok mx
            have h9 := x9 _ _ h8
            have hst9 := Evl.ex_t x9 hst8
            have hd9 : DpAll K G9 ls (pre ++ (loD oo i0 :: (post ++ [hiD x.own i0]))) := by
              rw [← el]
              exact dps_same x9 _ _ d8
            have lg9 := lg8.same x9
            have pl : m'.log.length = pre.length + 1 + post.length + 1 := by
              rw [el, List.length_append, List.length_cons, List.length_append, List.length_cons, List.length_nil]
              omega
            have f5 : x.found.length ≤ 5000 := Nat.le_trans (found_few rk) (by decide)
            have ra := rk.a
            have rb' := rk.b
            have rc := rk.c
            refine s_seq (t_asg (call_of (ea_cons (ev_var rfl) (ea_cons (ev_ix1 (ev_var rfl) hst9) ea_nil)) fun G10 x10 => ⟨Lg, ls, pre, post, i0, oo, x.own, rfl, sq_of (x10 _ _ h9), dps_same x10 _ _ hd9, (fun d md => lgood d (by rw [el]; exact md)), by omega, p1, p2, fun t5 G11 x11 h11 => ?_⟩))
            rw [show (pre.length : Int) + 1 = ((pre.length + 1 : Nat) : Int) from by omega] at h11
            refine ⟨t5, _, rfl, st_of h11, rfl, _, _, rfl, _, _, rfl, rfl, ?_⟩
            try dsimp only
            have dg : DGet G11 o (.int i0) (some (.ref ts)) := by
              have := DGet.k (k := .inl i0) (S9.ex (x10.trans x11)).so
              rw [hv] at this
              exact this
            refine s_seq ⟨.ref o, rfl, .ref st, rfl, st, _, 1, .int i0, rfl, rfl, Evl.ex_t (x10.trans x11) hst9, rfl, o, .ref ts, rfl, dg, g_name ?_⟩
            try dsimp only
            refine s_seq (s_if (b := false) (et_is (et_test (ev_op (ev_var rfl) (ev_var rfl) rv_I0)) (decide_eq_false (by omega))) (fun z => by cases z) fun _ G12 x12 => s_next ?_)
            have x912 := (x10.trans x11).trans x12
            have S12 := S9.ex x912
            have ts12 := Evl.ex_t (x9.trans x912) hts
            have dr12 := dp_same (x9.trans x912) _ _ dr
            refine s_seq (if_call (call_of (ea_cons (ev_var rfl) (ea_cons (ev_var rfl) (ea_cons (ev_var rfl) (ea_cons (ev_var rfl) (ea_cons (ev_var rfl) (ea_cons (ev_var rfl) ea_nil)))))) fun G13 x13 => ⟨.ref tb, fnd, rs, x.found, Lg, ts, allKs, m'.log, x.lo, x.hi, pre.length + 1, pre.length + 1 + post.length, rfl, (S12.ex x13).tp.dp, rin, (by rw [allKs_len]; exact Nat.le_refl _), lg9.same (x912.trans x13), by omega, by omega, Evl.ex_t x13 ts12, ra, by omega, by omega, rc, dp_same x13 _ _ dr12, f5, fun _ t6 G14 n6 x14 pt6 => ⟨rfl, _, rfl, ite2 (fun z => by simp at z) fun _ => s_next ?_⟩, fun nlt => absurd lt nlt⟩))
            have x1214 := x13.trans x14
            exact if_call (call_of (ea_cons (ev_var rfl) (ea_cons (ev_var rfl) (ea_cons (ev_var rfl) (ea_cons (ev_var rfl) (ea_cons (ev_var rfl) (ea_cons (ev_var rfl) ea_nil)))))) fun G15 x15 => ⟨.ref tb, fnd, rs, x.found, Lg, ts, allKs, m'.log, x.lo, x.hi, pre.length + 1, pre.length + 1 + post.length, rfl, (S12.ex (x1214.trans x15)).tp.dp, rin, (by rw [allKs_len]; exact Nat.le_refl _), lg9.same (x912.trans (x1214.trans x15)), by omega, by omega, Evl.ex_t (x1214.trans x15) ts12, ra, by omega, by omega, rc, dp_same (x1214.trans x15) _ _ dr12, f5, fun _ G16 x16 => ⟨rfl, _, rfl, ite2 (fun z => by simp at z) fun _ => s_next ⟨m', X', kvs', _, _, _, _, _, _, _, _, _, rfl, S12.ex ((x1214.trans x15).trans x16), ssm8'.kt (Kt.ex ((x9.trans x912).trans ((x1214.trans x15).trans x16))), W1, by omega, by omega, by omega, len'⟩⟩, fun nlt => absurd lt nlt⟩)
          · exact s_if (b := false) (et_is (et_and (a := true) (b := false) (et_is (et_test (ev_op (ev_ix0 (ev_var rfl) hst8) ev_c (rv_eq rfl))) (by decide +kernel)) fun _ => et_is (kde rfl) (decide_eq_false hk)) rfl) (fun z => by cases z) fun _ G9 x9 => s_next ⟨m', X', kvs', _, _, _, _, _, _, _, _, _, rfl, S8.ex x9, ssm8'.kt (Kt.ex x9), W1, by omega, by omega, by omega, len'⟩
      · obtain ⟨m, X, kvs, z7, z8, z9, z10, z11, z12, z13, z14, z15, rfl, S, _⟩ := hP
        exact ⟨_, _, _, _, _, _, _, _, _, _, _, _, _, _, _, rfl, ex_l S.x0 hA'⟩
    · exact q _
end
end K18
namespace K18
open PySem L2 PyProof.Rows Tc Evl NdefX
abbrev cNoLife : Stmt := topS 15
abbrev mXL : Stmt := inClass cNoLife 0
theorem scXL : NScope ["self", "who", "__class__"] ["self", "who"] ["__class__"] (defScope mXL) := nscope_by (by decide +kernel)
section
variable {P : Program} {w : World} {K : PySem.W.Frag} {mg : Str → Option Value} {base : Heap}
set_option maxHeartbeats 1000000 in
theorem ok_XL {f C cc cda : Addr} {k : Nat} {dV kV doc pm ct oc : Value} {an od : Option Addr} {osl : Array (Option Value)} (lk : K.lookup f = some ⟨oc, od, .func (PySem.W.fnX "__init__" "NoLife.__init__" (defArgs mXL) (defBody mXL) (defScope mXL) [("__class__", cc)] dV kV doc pm an (.ref cda) ct), osl⟩)
    (hcd : PySem.W.codeIn K (.ref cda) "NoLife.__init__" = true) (T : OexC K C) (hc : ∃ ol : Obj, K.lookup cc = some ol ∧ ol.data = .cell (some (.ref C))) (hno : PySem.W.findIn K (.ref C) "who" = some none) (Z : SupF P K mg C cda) :
    FnOk P w K mg base CX0 (k + 1) f (PySem.W.fnX "__init__" "NoLife.__init__" (defArgs mXL) (defBody mXL) (defScope mXL) [("__class__", cc)] dV kV doc pm an (.ref cda) ct) ["self", "who"] (spX1 C "who") := by
  refine fn_super (N := ["self", "who", "__class__"]) (me := "self") lk hcd scXL (fun vs H Q E h => ?_) T hc rfl rfl (fun _ => ⟨_, rfl⟩) (fun _ => rfl) (fun _ => rfl) (fun _ => rfl) (fun A outer s H E => ?_) (fun A outer s H vs Q E hr h => ?_)
  · obtain ⟨a, i, rfl, _⟩ := h
    rfl
  · exact ⟨rfl, rfl, rfl, rfl, ⟨_, _, _, lk, rfl, rfl, rfl⟩, Z.cd, Z.top, Z.mg, rfl, hc, rfl, Z.cl, Z.mr, Z.op, Z.su, Z.ve⟩
  · obtain ⟨a, i, rfl, ha, hi, q⟩ := h
    refine ⟨a, _, _, rfl, ha, pa_cons (pe_joined (.cons pe_str (.cons (pe_fmt (pv 1)) .nil))) pa_nil, pss_one (ps_ost (pv 0) (pv 1)), fun u hu => ?_⟩
    have ua : a ≠ u := ne_of_none ha hu
    refine ⟨_, rfl, by decide, .int i, rfl, .inr ⟨i, rfl, hi, _, rfl, text_fits (by decide) hi, ?_⟩⟩
    refine ⟨rfl, by simp, .int i, rfl, .ref a, rfl, a, C, rfl, T, hno, .inl ⟨(upd_ne ua).trans ha, fun d hd da => ?_⟩⟩
    have du : d ≠ u := fun z => by
      rw [z, upd_same] at hd
      cases hd
    rw [upd_ne du] at hd
    exact q d _ hd da upd_same ((upd_ne da).trans upd_same) fun b o ba hb => (upd_ne ba).trans ((upd_ne (ne_of_none hb hd)).trans ((upd_ne (ne_of_none hb hu)).trans hb))
end
abbrev cNoReading : Stmt := topS 16
abbrev mXR : Stmt := inClass cNoReading 0
theorem scXR : NScope ["self", "number", "__class__"] ["self", "number"] ["__class__"] (defScope mXR) := nscope_by (by decide +kernel)
section
variable {P : Program} {w : World} {K : PySem.W.Frag} {mg : Str → Option Value} {base : Heap}
set_option maxHeartbeats 1000000 in
theorem ok_XR {f C cc cda : Addr} {k : Nat} {dV kV doc pm ct oc : Value} {an od : Option Addr} {osl : Array (Option Value)} (lk : K.lookup f = some ⟨oc, od, .func (PySem.W.fnX "__init__" "NoReading.__init__" (defArgs mXR) (defBody mXR) (defScope mXR) [("__class__", cc)] dV kV doc pm an (.ref cda) ct), osl⟩)
    (hcd : PySem.W.codeIn K (.ref cda) "NoReading.__init__" = true) (T : OexC K C) (hc : ∃ ol : Obj, K.lookup cc = some ol ∧ ol.data = .cell (some (.ref C))) (hno : PySem.W.findIn K (.ref C) "number" = some none) (Z : SupF P K mg C cda) :
    FnOk P w K mg base CX0 (k + 1) f (PySem.W.fnX "__init__" "NoReading.__init__" (defArgs mXR) (defBody mXR) (defScope mXR) [("__class__", cc)] dV kV doc pm an (.ref cda) ct) ["self", "number"] (spX1 C "number") := by
  refine fn_super (N := ["self", "number", "__class__"]) (me := "self") lk hcd scXR (fun vs H Q E h => ?_) T hc rfl rfl (fun _ => ⟨_, rfl⟩) (fun _ => rfl) (fun _ => rfl) (fun _ => rfl) (fun A outer s H E => ?_) (fun A outer s H vs Q E hr h => ?_)
  · obtain ⟨a, i, rfl, _⟩ := h
    rfl
  · exact ⟨rfl, rfl, rfl, rfl, ⟨_, _, _, lk, rfl, rfl, rfl⟩, Z.cd, Z.top, Z.mg, rfl, hc, rfl, Z.cl, Z.mr, Z.op, Z.su, Z.ve⟩
  · obtain ⟨a, i, rfl, ha, hi, q⟩ := h
    refine ⟨a, _, _, rfl, ha, pa_cons (pe_joined (.cons pe_str (.cons (pe_fmt (pv 1)) .nil))) pa_nil, pss_one (ps_ost (pv 0) (pv 1)), fun u hu => ?_⟩
    have ua : a ≠ u := ne_of_none ha hu
    refine ⟨_, rfl, by decide, .int i, rfl, .inr ⟨i, rfl, hi, _, rfl, text_fits (by decide) hi, ?_⟩⟩
    refine ⟨rfl, by simp, .int i, rfl, .ref a, rfl, a, C, rfl, T, hno, .inl ⟨(upd_ne ua).trans ha, fun d hd da => ?_⟩⟩
    have du : d ≠ u := fun z => by
      rw [z, upd_same] at hd
      cases hd
    rw [upd_ne du] at hd
    exact q d _ hd da upd_same ((upd_ne da).trans upd_same) fun b o ba hb => (upd_ne ba).trans ((upd_ne (ne_of_none hb hd)).trans ((upd_ne (ne_of_none hb hu)).trans hb))
end
abbrev cNoPlace : Stmt := topS 14
abbrev mXP : Stmt := inClass cNoPlace 0
theorem scXP : NScope ["self", "at", "__class__"] ["self", "at"] ["__class__"] (defScope mXP) := nscope_by (by decide +kernel)
section
variable {P : Program} {w : World} {K : PySem.W.Frag} {mg : Str → Option Value} {base : Heap}
set_option maxHeartbeats 1000000 in
theorem ok_XP {f C cc cda : Addr} {k : Nat} {dV kV doc pm ct oc : Value} {an od : Option Addr} {osl : Array (Option Value)} (lk : K.lookup f = some ⟨oc, od, .func (PySem.W.fnX "__init__" "NoPlace.__init__" (defArgs mXP) (defBody mXP) (defScope mXP) [("__class__", cc)] dV kV doc pm an (.ref cda) ct), osl⟩)
    (hcd : PySem.W.codeIn K (.ref cda) "NoPlace.__init__" = true) (T : OexC K C) (hc : ∃ ol : Obj, K.lookup cc = some ol ∧ ol.data = .cell (some (.ref C))) (hno : PySem.W.findIn K (.ref C) "at" = some none) (Z : SupF P K mg C cda) :
    FnOk P w K mg base CX0 (k + 1) f (PySem.W.fnX "__init__" "NoPlace.__init__" (defArgs mXP) (defBody mXP) (defScope mXP) [("__class__", cc)] dV kV doc pm an (.ref cda) ct) ["self", "at"] (spX1 C "at") := by
  refine fn_super (N := ["self", "at", "__class__"]) (me := "self") lk hcd scXP (fun vs H Q E h => ?_) T hc rfl rfl (fun _ => ⟨_, rfl⟩) (fun _ => rfl) (fun _ => rfl) (fun _ => rfl) (fun A outer s H E => ?_) (fun A outer s H vs Q E hr h => ?_)
  · obtain ⟨a, i, rfl, _⟩ := h
    rfl
  · exact ⟨rfl, rfl, rfl, rfl, ⟨_, _, _, lk, rfl, rfl, rfl⟩, Z.cd, Z.top, Z.mg, rfl, hc, rfl, Z.cl, Z.mr, Z.op, Z.su, Z.ve⟩
  · obtain ⟨a, i, rfl, ha, hi, q⟩ := h
    refine ⟨a, _, _, rfl, ha, pa_cons (pe_joined (.cons pe_str (.cons (pe_fmt (pv 1)) .nil))) pa_nil, pss_one (ps_ost (pv 0) (pv 1)), fun u hu => ?_⟩
    have ua : a ≠ u := ne_of_none ha hu
    refine ⟨_, rfl, by decide, .int i, rfl, .inr ⟨i, rfl, hi, _, rfl, text_fits (by decide) hi, ?_⟩⟩
    refine ⟨rfl, by simp, .int i, rfl, .ref a, rfl, a, C, rfl, T, hno, .inl ⟨(upd_ne ua).trans ha, fun d hd da => ?_⟩⟩
    have du : d ≠ u := fun z => by
      rw [z, upd_same] at hd
      cases hd
    rw [upd_ne du] at hd
    exact q d _ hd da upd_same ((upd_ne da).trans upd_same) fun b o ba hb => (upd_ne ba).trans ((upd_ne (ne_of_none hb hd)).trans ((upd_ne (ne_of_none hb hu)).trans hb))
end
abbrev cHeld : Stmt := topS 19
abbrev mXD : Stmt := inClass cHeld 0
theorem scXD : NScope ["self", "who", "__class__"] ["self", "who"] ["__class__"] (defScope mXD) := nscope_by (by decide +kernel)
section
variable {P : Program} {w : World} {K : PySem.W.Frag} {mg : Str → Option Value} {base : Heap}
set_option maxHeartbeats 1000000 in
theorem ok_XD {f C cc cda : Addr} {k : Nat} {dV kV doc pm ct oc : Value} {an od : Option Addr} {osl : Array (Option Value)} (lk : K.lookup f = some ⟨oc, od, .func (PySem.W.fnX "__init__" "Held.__init__" (defArgs mXD) (defBody mXD) (defScope mXD) [("__class__", cc)] dV kV doc pm an (.ref cda) ct), osl⟩)
    (hcd : PySem.W.codeIn K (.ref cda) "Held.__init__" = true) (T : OexC K C) (hc : ∃ ol : Obj, K.lookup cc = some ol ∧ ol.data = .cell (some (.ref C))) (hno : PySem.W.findIn K (.ref C) "who" = some none) (Z : SupF P K mg C cda) :
    FnOk P w K mg base CX0 (k + 1) f (PySem.W.fnX "__init__" "Held.__init__" (defArgs mXD) (defBody mXD) (defScope mXD) [("__class__", cc)] dV kV doc pm an (.ref cda) ct) ["self", "who"] (spX1 C "who") := by
  refine fn_super (N := ["self", "who", "__class__"]) (me := "self") lk hcd scXD (fun vs H Q E h => ?_) T hc rfl rfl (fun _ => ⟨_, rfl⟩) (fun _ => rfl) (fun _ => rfl) (fun _ => rfl) (fun A outer s H E => ?_) (fun A outer s H vs Q E hr h => ?_)
  · obtain ⟨a, i, rfl, _⟩ := h
    rfl
  · exact ⟨rfl, rfl, rfl, rfl, ⟨_, _, _, lk, rfl, rfl, rfl⟩, Z.cd, Z.top, Z.mg, rfl, hc, rfl, Z.cl, Z.mr, Z.op, Z.su, Z.ve⟩
  · obtain ⟨a, i, rfl, ha, hi, q⟩ := h
    refine ⟨a, _, _, rfl, ha, pa_cons (pe_joined (.cons pe_str (.cons (pe_fmt (pv 1)) .nil))) pa_nil, pss_one (ps_ost (pv 0) (pv 1)), fun u hu => ?_⟩
    have ua : a ≠ u := ne_of_none ha hu
    refine ⟨_, rfl, by decide, .int i, rfl, .inr ⟨i, rfl, hi, _, rfl, text_fits (by decide) hi, ?_⟩⟩
    refine ⟨rfl, by simp, .int i, rfl, .ref a, rfl, a, C, rfl, T, hno, .inl ⟨(upd_ne ua).trans ha, fun d hd da => ?_⟩⟩
    have du : d ≠ u := fun z => by
      rw [z, upd_same] at hd
      cases hd
    rw [upd_ne du] at hd
    exact q d _ hd da upd_same ((upd_ne da).trans upd_same) fun b o ba hb => (upd_ne ba).trans ((upd_ne (ne_of_none hb hd)).trans ((upd_ne (ne_of_none hb hu)).trans hb))
end
abbrev cTooMany : Stmt := topS 12
abbrev mXM : Stmt := inClass cTooMany 0
theorem scXM : NScope ["self", "many", "__class__"] ["self", "many"] ["__class__"] (defScope mXM) := nscope_by (by decide +kernel)
section
variable {P : Program} {w : World} {K : PySem.W.Frag} {mg : Str → Option Value} {base : Heap}
set_option maxHeartbeats 1000000 in
theorem ok_XM {f C cc cda : Addr} {k : Nat} {dV kV doc pm ct oc : Value} {an od : Option Addr} {osl : Array (Option Value)} (lk : K.lookup f = some ⟨oc, od, .func (PySem.W.fnX "__init__" "TooMany.__init__" (defArgs mXM) (defBody mXM) (defScope mXM) [("__class__", cc)] dV kV doc pm an (.ref cda) ct), osl⟩)
    (hcd : PySem.W.codeIn K (.ref cda) "TooMany.__init__" = true) (T : OexC K C) (hc : ∃ ol : Obj, K.lookup cc = some ol ∧ ol.data = .cell (some (.ref C))) (hno : PySem.W.findIn K (.ref C) "many" = some none) (Z : SupF P K mg C cda) :
    FnOk P w K mg base CX0 (k + 1) f (PySem.W.fnX "__init__" "TooMany.__init__" (defArgs mXM) (defBody mXM) (defScope mXM) [("__class__", cc)] dV kV doc pm an (.ref cda) ct) ["self", "many"] (spX1 C "many") := by
  refine fn_super (N := ["self", "many", "__class__"]) (me := "self") lk hcd scXM (fun vs H Q E h => ?_) T hc rfl rfl (fun _ => ⟨_, rfl⟩) (fun _ => rfl) (fun _ => rfl) (fun _ => rfl) (fun A outer s H E => ?_) (fun A outer s H vs Q E hr h => ?_)
  · obtain ⟨a, i, rfl, _⟩ := h
    rfl
  · exact ⟨rfl, rfl, rfl, rfl, ⟨_, _, _, lk, rfl, rfl, rfl⟩, Z.cd, Z.top, Z.mg, rfl, hc, rfl, Z.cl, Z.mr, Z.op, Z.su, Z.ve⟩
  · obtain ⟨a, i, rfl, ha, hi, q⟩ := h
    refine ⟨a, _, _, rfl, ha, pa_cons (pe_joined (.cons pe_str (.cons (pe_fmt (pv 1)) .nil))) pa_nil, pss_one (ps_ost (pv 0) (pv 1)), fun u hu => ?_⟩
    have ua : a ≠ u := ne_of_none ha hu
    refine ⟨_, rfl, by decide, .int i, rfl, .inr ⟨i, rfl, hi, _, rfl, text_fits (by decide) hi, ?_⟩⟩
    refine ⟨rfl, by simp, .int i, rfl, .ref a, rfl, a, C, rfl, T, hno, .inl ⟨(upd_ne ua).trans ha, fun d hd da => ?_⟩⟩
    have du : d ≠ u := fun z => by
      rw [z, upd_same] at hd
      cases hd
    rw [upd_ne du] at hd
    exact q d _ hd da upd_same ((upd_ne da).trans upd_same) fun b o ba hb => (upd_ne ba).trans ((upd_ne (ne_of_none hb hd)).trans ((upd_ne (ne_of_none hb hu)).trans hb))
end
abbrev cTrimmed : Stmt := topS 20
abbrev mXT : Stmt := inClass cTrimmed 0
theorem scXT : NScope ["self", "at", "__class__"] ["self", "at"] ["__class__"] (defScope mXT) := nscope_by (by decide +kernel)
section
variable {P : Program} {w : World} {K : PySem.W.Frag} {mg : Str → Option Value} {base : Heap}
set_option maxHeartbeats 1000000 in
theorem ok_XT {f C cc cda : Addr} {k : Nat} {dV kV doc pm ct oc : Value} {an od : Option Addr} {osl : Array (Option Value)} (lk : K.lookup f = some ⟨oc, od, .func (PySem.W.fnX "__init__" "Trimmed.__init__" (defArgs mXT) (defBody mXT) (defScope mXT) [("__class__", cc)] dV kV doc pm an (.ref cda) ct), osl⟩)
    (hcd : PySem.W.codeIn K (.ref cda) "Trimmed.__init__" = true) (T : OexC K C) (hc : ∃ ol : Obj, K.lookup cc = some ol ∧ ol.data = .cell (some (.ref C))) (hno : PySem.W.findIn K (.ref C) "at" = some none) (Z : SupF P K mg C cda) :
    FnOk P w K mg base CX0 (k + 1) f (PySem.W.fnX "__init__" "Trimmed.__init__" (defArgs mXT) (defBody mXT) (defScope mXT) [("__class__", cc)] dV kV doc pm an (.ref cda) ct) ["self", "at"] (spX1 C "at") := by
  refine fn_super (N := ["self", "at", "__class__"]) (me := "self") lk hcd scXT (fun vs H Q E h => ?_) T hc rfl rfl (fun _ => ⟨_, rfl⟩) (fun _ => rfl) (fun _ => rfl) (fun _ => rfl) (fun A outer s H E => ?_) (fun A outer s H vs Q E hr h => ?_)
  · obtain ⟨a, i, rfl, _⟩ := h
    rfl
  · exact ⟨rfl, rfl, rfl, rfl, ⟨_, _, _, lk, rfl, rfl, rfl⟩, Z.cd, Z.top, Z.mg, rfl, hc, rfl, Z.cl, Z.mr, Z.op, Z.su, Z.ve⟩
  · obtain ⟨a, i, rfl, ha, hi, q⟩ := h
    refine ⟨a, _, _, rfl, ha, pa_cons (pe_joined (.cons pe_str (.cons (pe_fmt (pv 1)) .nil))) pa_nil, pss_one (ps_ost (pv 0) (pv 1)), fun u hu => ?_⟩
    have ua : a ≠ u := ne_of_none ha hu
    refine ⟨_, rfl, by decide, .int i, rfl, .inr ⟨i, rfl, hi, _, rfl, text_fits (by decide) hi, ?_⟩⟩
    refine ⟨rfl, by simp, .int i, rfl, .ref a, rfl, a, C, rfl, T, hno, .inl ⟨(upd_ne ua).trans ha, fun d hd da => ?_⟩⟩
    have du : d ≠ u := fun z => by
      rw [z, upd_same] at hd
      cases hd
    rw [upd_ne du] at hd
    exact q d _ hd da upd_same ((upd_ne da).trans upd_same) fun b o ba hb => (upd_ne ba).trans ((upd_ne (ne_of_none hb hd)).trans ((upd_ne (ne_of_none hb hu)).trans hb))
end
end K18
namespace K18
open PySem L2 PyProof.Rows Tc Evl
theorem kb_en {K : PySem.W.Frag} {f : Addr} {fd : FuncData} (F : Fun K "entries" "House.entries" mEntries f fd) : KBn K fd ["self", "place", "many"] (1 + 1) ["many"] (· ++ ·) (· ++ ·) := by
  obtain ⟨o1, o2, kw, dc, m1, a1, c1, c2, sl, rfl, _, _⟩ := F.ex
  refine ⟨fun s us ws _ h1 h2 => ?_, fun r1 r2 => r1.append r2⟩
  match us, ws, h1, h2 with
  | [a, b], [c], _, _ => exact .of_eq rfl
theorem kb_lo {K : PySem.W.Frag} {f : Addr} {fd : FuncData} (F : Fun K "look" "House.look" mLook f fd) : KBn K fd ["self", "number", "many"] (1 + 1) ["many"] (· ++ ·) (· ++ ·) := by
  obtain ⟨o1, o2, kw, dc, m1, a1, c1, c2, sl, rfl, _, _⟩ := F.ex
  refine ⟨fun s us ws _ h1 h2 => ?_, fun r1 r2 => r1.append r2⟩
  match us, ws, h1, h2 with
  | [a, b], [c], _, _ => exact .of_eq rfl
theorem kd_en {K : PySem.W.Frag} {f : Addr} {fd : FuncData} (F : FunD K "entries" "House.entries" (defArgs mEntries) (defBody mEntries) (defScope mEntries) [] [("many", .int 5)] f fd) : ∃ ds, Vals [.int 5] ds ∧ Binds K fd ["self", "place", "many"] ds :=
  F.binds0 (ps := ["self", "place", "many"]) 2 (by simp) rfl fun D doc pm an cdv ct us ks l1 l2 => by
    match us, ks, l1, l2 with
    | [a, b], [m], _, _ => exact ⟨_, _, _, _, _, _, rfl, rfl, rfl⟩
def flNt : List Bool := (List.range 26).map fun i => decide (i = 1 ∨ i = 13 ∨ i = 25)
def fileN : Str := PySem.Challenge.pw_tidecopy_k18_whole_the_log_tells_the_tab.main.file
def eqE (K : PySem.W.Frag) (x : Str) : Bool := He.eqO (PySem.W.nsIn K mainGlobals x) (some (some (.ref (He.ga K x))))
def hfs : List (PySem.W.Frag → Bool) := [fun K => (He.Fa.glo "is_number").ok K,
  fun K => (He.Fa.glo "is_key").ok K,
  fun K => (He.Fa.glo "is_worth").ok K,
  fun K => (He.Fa.glo "is_row").ok K,
  fun K => (He.Fa.glo "is_rows").ok K,
  fun K => (He.Fa.glo "is_table").ok K,
  fun K => (He.Fa.glo "is_change").ok K,
  fun K => (He.Fa.glo "is_group").ok K,
  fun K => (He.Fa.glo "changes_of").ok K,
  fun K => (He.Fa.glo "carry").ok K,
  fun K => (He.Fa.glo "rising").ok K,
  fun K => (He.Fa.glo "is_stretch").ok K,
  fun K => (He.Fa.glo "least_row").ok K,
  fun K => (He.Fa.glo "_law_bag").ok K,
  fun K => (He.Fa.glo "_law_take").ok K,
  fun K => (He.Fa.glo "_law_of").ok K,
  fun K => (He.Fa.glo "_law_kinds").ok K,
  fun K => (He.Fa.glo "_law_keys").ok K,
  fun K => (He.Fa.glo "_law_table").ok K,
  fun K => (He.Fa.glo "_law_changes").ok K,
  fun K => (He.Fa.glo "_law_stretch").ok K,
  fun K => (He.Fa.glo "_law_house_call").ok K,
  fun K => (He.Fa.glo "_law_field").ok K,
  fun K => (He.Fa.glo "_law_house_tried").ok K,
  fun K => (He.Fa.glo "check_place").ok K,
  fun K => (He.Fa.glo "rows_at").ok K,
  fun K => (He.Fa.glo "least_moments").ok K,
  fun K => (He.Fa.glo "moments").ok K,
  fun K => (He.Fa.glo "odd").ok K,
  fun K => (He.Fa.glo "_law_done").ok K,
  fun K => (He.Fa.glo "_law_pairs").ok K,
  fun K => (He.Fa.glo "_law_groups").ok K,
  fun K => (He.Fa.glo "_law_at").ok K,
  fun K => (He.Fa.glo "_law_house_step").ok K,
  fun K => (He.Fa.glo "_law_marks_at").ok K,
  fun K => (He.Fa.glo "law").ok K,
  fun K => (He.Fa.glo "House").ok K,
  fun K => (He.Fa.cls "House").ok K,
  fun K => tup0B K (He.dflAt ("House", some "__init__") 0 K),
  fun K => (He.Fa.mkr "House").ok K,
  fun K => (He.Fa.meth "House" "change").ok K,
  fun K => (He.Fa.meth "House" "life").ok K,
  fun K => (He.Fa.meth "House" "begin").ok K,
  fun K => (He.Fa.meth "House" "look").ok K,
  fun K => (He.Fa.meth "House" "finish").ok K,
  fun K => (He.Fa.meth "House" "stop").ok K,
  fun K => (He.Fa.meth "House" "hold").ok K,
  fun K => (He.Fa.meth "House" "leave").ok K,
  fun K => (He.Fa.meth "House" "trim").ok K,
  fun K => (He.Fa.meth "House" "table").ok K,
  fun K => (He.Fa.meth "House" "places").ok K,
  fun K => (He.Fa.meth "House" "entries").ok K,
  fun K => (He.Fa.meth "House" "holds").ok K,
  fun K => (He.Fa.meth "House" "readings").ok K,
  fun K => (He.Fa.meth "House" "running_one").ok K,
  fun K => (He.Fa.meth "House" "check_life").ok K,
  fun K => (He.Fa.meth "House" "check_kept").ok K,
  fun K => (He.Fa.noat "House" "worths").ok K,
  fun K => (He.Fa.noat "House" "kept").ok K,
  fun K => (He.Fa.noat "House" "first_kept").ok K,
  fun K => (He.Fa.noat "House" "lives_given").ok K,
  fun K => (He.Fa.noat "House" "begun").ok K,
  fun K => (He.Fa.noat "House" "living").ok K,
  fun K => (He.Fa.noat "House" "running").ok K,
  fun K => (He.Fa.glo "Reading").ok K,
  fun K => (He.Fa.cls "Reading").ok K,
  fun K => (He.Fa.mkr "Reading").ok K,
  fun K => (He.Fa.meth "Reading" "look_once").ok K,
  fun K => (He.Fa.noat "Reading" "owner").ok K,
  fun K => (He.Fa.noat "Reading" "stretch").ok K,
  fun K => (He.Fa.noat "Reading" "found").ok K,
  fun K => (He.Fa.noat "Reading" "ended").ok K,
  fun K => (He.Fa.glo "NoTable").ok K,
  fun K => (He.Fa.exc "NoTable").ok K,
  fun K => eqE K "NoTable" && excB K (He.ga K "NoTable") flNt,
  fun K => (He.Fa.glo "NoChange").ok K,
  fun K => (He.Fa.exc "NoChange").ok K,
  fun K => eqE K "NoChange" && excB K (He.ga K "NoChange") (rfF .noChange),
  fun K => (He.Fa.glo "NoStretch").ok K,
  fun K => (He.Fa.exc "NoStretch").ok K,
  fun K => eqE K "NoStretch" && excB K (He.ga K "NoStretch") (rfF .noStretch),
  fun K => (He.Fa.glo "Ended").ok K,
  fun K => (He.Fa.exc "Ended").ok K,
  fun K => eqE K "Ended" && excB K (He.ga K "Ended") (rfF .ended),
  fun K => (He.Fa.glo "NotEnded").ok K,
  fun K => (He.Fa.exc "NotEnded").ok K,
  fun K => eqE K "NotEnded" && excB K (He.ga K "NotEnded") (rfF .notEnded),
  fun K => xcB K fileN "NoLife" "who" (rfF .noLife),
  fun K => xcB K fileN "NoReading" "number" (rfF .noReading),
  fun K => xcB K fileN "NoPlace" "at" (rfF .noPlace),
  fun K => xcB K fileN "Held" "who" (rfF .held),
  fun K => xcB K fileN "TooMany" "many" (rfF .tooMany),
  fun K => xcB K fileN "Trimmed" "at" flTr,
  fun K => (He.Fa.glo "TideError").ok K,
  fun K => (He.Fa.exm "NoChange" "TideError" true).ok K,
  fun K => (He.Fa.exm "NoStretch" "TideError" true).ok K,
  fun K => (He.Fa.exm "Ended" "TideError" true).ok K,
  fun K => (He.Fa.exm "NotEnded" "TideError" true).ok K,
  fun K => (He.Fa.exm "NoLife" "TideError" true).ok K,
  fun K => (He.Fa.exm "NoReading" "TideError" true).ok K,
  fun K => (He.Fa.exm "NoPlace" "TideError" true).ok K,
  fun K => (He.Fa.exm "Held" "TideError" true).ok K,
  fun K => (He.Fa.exm "TooMany" "TideError" true).ok K,
  fun K => (He.Fa.exm "Trimmed" "TideError" true).ok K,
  fun K => (He.Fa.free "isinstance").ok K,
  fun K => (He.Fa.free "int").ok K,
  fun K => (He.Fa.free "bool").ok K,
  fun K => (He.Fa.free "tuple").ok K,
  fun K => (He.Fa.free "list").ok K,
  fun K => (He.Fa.free "str").ok K,
  fun K => (He.Fa.free "len").ok K,
  fun K => (He.Fa.free "set").ok K,
  fun K => (He.Fa.free "sorted").ok K,
  fun K => (He.Fa.free "range").ok K,
  fun K => (He.Fa.free "abs").ok K,
  fun K => (He.Fa.free "min").ok K,
  fun K => (He.Fa.free "max").ok K,
  fun K => (He.Fa.free "dict").ok K,
  fun K => (He.Fa.free "all").ok K,
  fun K => (He.Fa.free "ValueError").ok K,
  fun K => (He.Fa.free "enumerate").ok K,
  fun K => (He.Fa.int "KEYS" 1000).ok K,
  fun K => (He.Fa.int "WORTHS" 1000).ok K,
  fun K => (He.Fa.int "MOST_ROWS" 100).ok K,
  fun K => (He.Fa.int "MOST_CHANGES" 6).ok K]
def hfn : List He.DefD := [⟨("is_number", none), "is_number", "is_number", defArgs sNum, defBody sNum, defScope sNum, [], []⟩,
  ⟨("is_key", none), "is_key", "is_key", defArgs sKey, defBody sKey, defScope sKey, [], []⟩,
  ⟨("is_worth", none), "is_worth", "is_worth", defArgs sWorth, defBody sWorth, defScope sWorth, [], []⟩,
  ⟨("is_row", none), "is_row", "is_row", defArgs sRow, defBody sRow, defScope sRow, [], []⟩,
  ⟨("is_rows", none), "is_rows", "is_rows", defArgs sRows, defBody sRows, defScope sRows, [], []⟩,
  ⟨("is_table", none), "is_table", "is_table", defArgs sTable, defBody sTable, defScope sTable, [], []⟩,
  ⟨("is_change", none), "is_change", "is_change", defArgs sCh, defBody sCh, defScope sCh, [], []⟩,
  ⟨("is_group", none), "is_group", "is_group", defArgs sGr, defBody sGr, defScope sGr, [], []⟩,
  ⟨("changes_of", none), "changes_of", "changes_of", defArgs sCo, defBody sCo, defScope sCo, [], []⟩,
  ⟨("carry", none), "carry", "carry", defArgs sCa, defBody sCa, defScope sCa, [], []⟩,
  ⟨("rising", none), "rising", "rising", defArgs sRi, defBody sRi, defScope sRi, [], []⟩,
  ⟨("is_stretch", none), "is_stretch", "is_stretch", defArgs sStre, defBody sStre, defScope sStre, [], []⟩,
  ⟨("least_row", none), "least_row", "least_row", defArgs sLe, defBody sLe, defScope sLe, [], []⟩,
  ⟨("_law_bag", none), "_law_bag", "_law_bag", defArgs sBag, defBody sBag, defScope sBag, [], []⟩,
  ⟨("_law_take", none), "_law_take", "_law_take", defArgs sTake, defBody sTake, defScope sTake, [], []⟩,
  ⟨("_law_of", none), "_law_of", "_law_of", defArgs sOf, defBody sOf, defScope sOf, [], []⟩,
  ⟨("_law_kinds", none), "_law_kinds", "_law_kinds", defArgs sKinds, defBody sKinds, defScope sKinds, [], []⟩,
  ⟨("_law_keys", none), "_law_keys", "_law_keys", defArgs sKeys, defBody sKeys, defScope sKeys, [], []⟩,
  ⟨("_law_table", none), "_law_table", "_law_table", defArgs sTab, defBody sTab, defScope sTab, [], []⟩,
  ⟨("_law_changes", none), "_law_changes", "_law_changes", defArgs sLCh, defBody sLCh, defScope sLCh, [], []⟩,
  ⟨("_law_stretch", none), "_law_stretch", "_law_stretch", defArgs sStr, defBody sStr, defScope sStr, [], []⟩,
  ⟨("_law_house_call", none), "_law_house_call", "_law_house_call", defArgs sCall, defBody sCall, defScope sCall, [], []⟩,
  ⟨("_law_field", none), "_law_field", "_law_field", defArgs sField, defBody sField, defScope sField, [], []⟩,
  ⟨("_law_house_tried", none), "_law_house_tried", "_law_house_tried", defArgs sTried, defBody sTried, defScope sTried, [], []⟩,
  ⟨("check_place", none), "check_place", "check_place", defArgs sPl, defBody sPl, defScope sPl, [], []⟩,
  ⟨("rows_at", none), "rows_at", "rows_at", defArgs sRo, defBody sRo, defScope sRo, [], []⟩,
  ⟨("least_moments", none), "least_moments", "least_moments", defArgs sLm, defBody sLm, defScope sLm, [], []⟩,
  ⟨("moments", none), "moments", "moments", defArgs sMo, defBody sMo, defScope sMo, [], []⟩,
  ⟨("odd", none), "odd", "odd", defArgs sOdd, defBody sOdd, defScope sOdd, [], []⟩,
  ⟨("_law_done", none), "_law_done", "_law_done", defArgs sDone, defBody sDone, defScope sDone, [], []⟩,
  ⟨("_law_pairs", none), "_law_pairs", "_law_pairs", defArgs sPairs, defBody sPairs, defScope sPairs, [], []⟩,
  ⟨("_law_groups", none), "_law_groups", "_law_groups", defArgs sGroups, defBody sGroups, defScope sGroups, [], []⟩,
  ⟨("_law_at", none), "_law_at", "_law_at", defArgs sAt, defBody sAt, defScope sAt, [], []⟩,
  ⟨("_law_house_step", none), "_law_house_step", "_law_house_step", defArgs sStep, defBody sStep, defScope sStep, [], []⟩,
  ⟨("_law_marks_at", none), "_law_marks_at", "_law_marks_at", defArgs sMk, defBody sMk, defScope sMk, [], []⟩,
  ⟨("law", none), "law", "law", defArgs sLaw, defBody sLaw, defScope sLaw, [], []⟩,
  ⟨("House", some "__init__"), "__init__", "House.__init__", defArgs mInit, defBody mInit, defScope mInit, [.adr (He.dflAt ("House", some "__init__") 0)], []⟩,
  ⟨("House", some "change"), "change", "House.change", defArgs mChange, defBody mChange, defScope mChange, [], []⟩,
  ⟨("House", some "life"), "life", "House.life", defArgs mLife, defBody mLife, defScope mLife, [], []⟩,
  ⟨("House", some "begin"), "begin", "House.begin", defArgs mBegin, defBody mBegin, defScope mBegin, [], []⟩,
  ⟨("House", some "look"), "look", "House.look", defArgs mLook, defBody mLook, defScope mLook, [], [("many", .int 5)]⟩,
  ⟨("House", some "finish"), "finish", "House.finish", defArgs mFinish, defBody mFinish, defScope mFinish, [], []⟩,
  ⟨("House", some "stop"), "stop", "House.stop", defArgs mStop, defBody mStop, defScope mStop, [], []⟩,
  ⟨("House", some "hold"), "hold", "House.hold", defArgs mHold, defBody mHold, defScope mHold, [], []⟩,
  ⟨("House", some "leave"), "leave", "House.leave", defArgs mLeave, defBody mLeave, defScope mLeave, [], []⟩,
  ⟨("House", some "trim"), "trim", "House.trim", defArgs mTrim, defBody mTrim, defScope mTrim, [], []⟩,
  ⟨("House", some "table"), "table", "House.table", defArgs mTable, defBody mTable, defScope mTable, [], []⟩,
  ⟨("House", some "places"), "places", "House.places", defArgs mPlaces, defBody mPlaces, defScope mPlaces, [], []⟩,
  ⟨("House", some "entries"), "entries", "House.entries", defArgs mEntries, defBody mEntries, defScope mEntries, [], [("many", .int 5)]⟩,
  ⟨("House", some "holds"), "holds", "House.holds", defArgs mHolds, defBody mHolds, defScope mHolds, [], []⟩,
  ⟨("House", some "readings"), "readings", "House.readings", defArgs mReadings, defBody mReadings, defScope mReadings, [], []⟩,
  ⟨("House", some "running_one"), "running_one", "House.running_one", defArgs mRone, defBody mRone, defScope mRone, [], []⟩,
  ⟨("House", some "check_life"), "check_life", "House.check_life", defArgs mCkl, defBody mCkl, defScope mCkl, [], []⟩,
  ⟨("House", some "check_kept"), "check_kept", "House.check_kept", defArgs mCkk, defBody mCkk, defScope mCkk, [], []⟩,
  ⟨("Reading", some "__init__"), "__init__", "Reading.__init__", defArgs rInit, defBody rInit, defScope rInit, [], []⟩,
  ⟨("Reading", some "look_once"), "look_once", "Reading.look_once", defArgs rLook, defBody rLook, defScope rLook, [], []⟩]
def hxs : List XcD := [⟨"NoLife", "NoLife.__init__", defArgs mXL, defBody mXL, defScope mXL⟩,
  ⟨"NoReading", "NoReading.__init__", defArgs mXR, defBody mXR, defScope mXR⟩,
  ⟨"NoPlace", "NoPlace.__init__", defArgs mXP, defBody mXP, defScope mXP⟩,
  ⟨"Held", "Held.__init__", defArgs mXD, defBody mXD, defScope mXD⟩,
  ⟨"TooMany", "TooMany.__init__", defArgs mXM, defBody mXM, defScope mXM⟩,
  ⟨"Trimmed", "Trimmed.__init__", defArgs mXT, defBody mXT, defScope mXT⟩]
set_option maxHeartbeats 4000000 in
theorem all_mk {P : Program} {w : World} {K : PySem.W.Frag} {h : Heap} {mg : Str → Option Value} {fa : Addr} (X : K.In h) (G : h.Ns mainGlobals mg) (hfa : mg "law" = some (.ref fa)) (xFile : P.main.file = fileN) (xP : (P.main.scope.names.lookup ("super" : Str)).isSome = false) (c : SaysM hfs hfn hxs K) :
    ∃ fd : FuncData, (∀ (s : Shared) (v : Value), BindsTo s fd ⟨[v], []⟩ [("script", v)]) ∧ ∀ base : Heap, K.In base → base.Ns mainGlobals mg → FnOk P w K mg base CX0 8 fa fd ["script"] (spLaw K) := by
  obtain ⟨fd1, FD1⟩ : ∃ fd, FunD K "is_number" "is_number" (defArgs sNum) (defBody sNum) (defScope sNum) [] [] (He.ga K "is_number") fd := c.def_ 0
  have F1 := fun_of FD1
  have m1 := He.glo_ok X G (c.fact 0 (f := fun K => (He.Fa.glo "is_number").ok K) rfl)
  have b1 := F1.binds (ps := ["thing"]) fun _ _ _ _ _ _ us hl => match us, hl with | [_], _ => rfl
  obtain ⟨fd2, FD2⟩ : ∃ fd, FunD K "is_key" "is_key" (defArgs sKey) (defBody sKey) (defScope sKey) [] [] (He.ga K "is_key") fd := c.def_ 1
  have F2 := fun_of FD2
  have m2 := He.glo_ok X G (c.fact 1 (f := fun K => (He.Fa.glo "is_key").ok K) rfl)
  have b2 := F2.binds (ps := ["thing"]) fun _ _ _ _ _ _ us hl => match us, hl with | [_], _ => rfl
  obtain ⟨fd3, FD3⟩ : ∃ fd, FunD K "is_worth" "is_worth" (defArgs sWorth) (defBody sWorth) (defScope sWorth) [] [] (He.ga K "is_worth") fd := c.def_ 2
  have F3 := fun_of FD3
  have m3 := He.glo_ok X G (c.fact 2 (f := fun K => (He.Fa.glo "is_worth").ok K) rfl)
  have b3 := F3.binds (ps := ["thing"]) fun _ _ _ _ _ _ us hl => match us, hl with | [_], _ => rfl
  obtain ⟨fd4, FD4⟩ : ∃ fd, FunD K "is_row" "is_row" (defArgs sRow) (defBody sRow) (defScope sRow) [] [] (He.ga K "is_row") fd := c.def_ 3
  have F4 := fun_of FD4
  have m4 := He.glo_ok X G (c.fact 3 (f := fun K => (He.Fa.glo "is_row").ok K) rfl)
  have b4 := F4.binds (ps := ["thing"]) fun _ _ _ _ _ _ us hl => match us, hl with | [_], _ => rfl
  obtain ⟨fd5, FD5⟩ : ∃ fd, FunD K "is_rows" "is_rows" (defArgs sRows) (defBody sRows) (defScope sRows) [] [] (He.ga K "is_rows") fd := c.def_ 4
  have F5 := fun_of FD5
  have m5 := He.glo_ok X G (c.fact 4 (f := fun K => (He.Fa.glo "is_rows").ok K) rfl)
  have b5 := F5.binds (ps := ["thing", "first", "last"]) fun _ _ _ _ _ _ us hl => match us, hl with | [_, _, _], _ => rfl
  obtain ⟨fd6, FD6⟩ : ∃ fd, FunD K "is_table" "is_table" (defArgs sTable) (defBody sTable) (defScope sTable) [] [] (He.ga K "is_table") fd := c.def_ 5
  have F6 := fun_of FD6
  have m6 := He.glo_ok X G (c.fact 5 (f := fun K => (He.Fa.glo "is_table").ok K) rfl)
  have b6 := F6.binds (ps := ["thing"]) fun _ _ _ _ _ _ us hl => match us, hl with | [_], _ => rfl
  obtain ⟨fd7, FD7⟩ : ∃ fd, FunD K "is_change" "is_change" (defArgs sCh) (defBody sCh) (defScope sCh) [] [] (He.ga K "is_change") fd := c.def_ 6
  have F7 := fun_of FD7
  have m7 := He.glo_ok X G (c.fact 6 (f := fun K => (He.Fa.glo "is_change").ok K) rfl)
  have b7 := F7.binds (ps := ["thing"]) fun _ _ _ _ _ _ us hl => match us, hl with | [_], _ => rfl
  obtain ⟨fd8, FD8⟩ : ∃ fd, FunD K "is_group" "is_group" (defArgs sGr) (defBody sGr) (defScope sGr) [] [] (He.ga K "is_group") fd := c.def_ 7
  have F8 := fun_of FD8
  have m8 := He.glo_ok X G (c.fact 7 (f := fun K => (He.Fa.glo "is_group").ok K) rfl)
  have b8 := F8.binds (ps := ["thing"]) fun _ _ _ _ _ _ us hl => match us, hl with | [_], _ => rfl
  obtain ⟨fd9, FD9⟩ : ∃ fd, FunD K "changes_of" "changes_of" (defArgs sCo) (defBody sCo) (defScope sCo) [] [] (He.ga K "changes_of") fd := c.def_ 8
  have F9 := fun_of FD9
  have m9 := He.glo_ok X G (c.fact 8 (f := fun K => (He.Fa.glo "changes_of").ok K) rfl)
  have b9 := F9.binds (ps := ["entry"]) fun _ _ _ _ _ _ us hl => match us, hl with | [_], _ => rfl
  obtain ⟨fd10, FD10⟩ : ∃ fd, FunD K "carry" "carry" (defArgs sCa) (defBody sCa) (defScope sCa) [] [] (He.ga K "carry") fd := c.def_ 9
  have F10 := fun_of FD10
  have m10 := He.glo_ok X G (c.fact 9 (f := fun K => (He.Fa.glo "carry").ok K) rfl)
  have b10 := F10.binds (ps := ["rows", "log", "low", "high"]) fun _ _ _ _ _ _ us hl => match us, hl with | [_, _, _, _], _ => rfl
  obtain ⟨fd11, FD11⟩ : ∃ fd, FunD K "rising" "rising" (defArgs sRi) (defBody sRi) (defScope sRi) [] [] (He.ga K "rising") fd := c.def_ 10
  have F11 := fun_of FD11
  have m11 := He.glo_ok X G (c.fact 10 (f := fun K => (He.Fa.glo "rising").ok K) rfl)
  have b11 := F11.binds (ps := ["rows"]) fun _ _ _ _ _ _ us hl => match us, hl with | [_], _ => rfl
  obtain ⟨fd12, FD12⟩ : ∃ fd, FunD K "is_stretch" "is_stretch" (defArgs sStre) (defBody sStre) (defScope sStre) [] [] (He.ga K "is_stretch") fd := c.def_ 11
  have F12 := fun_of FD12
  have m12 := He.glo_ok X G (c.fact 11 (f := fun K => (He.Fa.glo "is_stretch").ok K) rfl)
  have b12 := F12.binds (ps := ["first", "last"]) fun _ _ _ _ _ _ us hl => match us, hl with | [_, _], _ => rfl
  obtain ⟨fd13, FD13⟩ : ∃ fd, FunD K "least_row" "least_row" (defArgs sLe) (defBody sLe) (defScope sLe) [] [] (He.ga K "least_row") fd := c.def_ 12
  have F13 := fun_of FD13
  have m13 := He.glo_ok X G (c.fact 12 (f := fun K => (He.Fa.glo "least_row").ok K) rfl)
  have b13 := F13.binds (ps := ["rows", "first", "last"]) fun _ _ _ _ _ _ us hl => match us, hl with | [_, _, _], _ => rfl
  obtain ⟨fd14, FD14⟩ : ∃ fd, FunD K "_law_bag" "_law_bag" (defArgs sBag) (defBody sBag) (defScope sBag) [] [] (He.ga K "_law_bag") fd := c.def_ 13
  have F14 := fun_of FD14
  have m14 := He.glo_ok X G (c.fact 13 (f := fun K => (He.Fa.glo "_law_bag").ok K) rfl)
  have b14 := F14.binds (ps := ["script", "k"]) fun _ _ _ _ _ _ us hl => match us, hl with | [_, _], _ => rfl
  obtain ⟨fd15, FD15⟩ : ∃ fd, FunD K "_law_take" "_law_take" (defArgs sTake) (defBody sTake) (defScope sTake) [] [] (He.ga K "_law_take") fd := c.def_ 14
  have F15 := fun_of FD15
  have m15 := He.glo_ok X G (c.fact 14 (f := fun K => (He.Fa.glo "_law_take").ok K) rfl)
  have b15 := F15.binds (ps := ["bag", "man1"]) fun _ _ _ _ _ _ us hl => match us, hl with | [_, _], _ => rfl
  obtain ⟨fd16, FD16⟩ : ∃ fd, FunD K "_law_of" "_law_of" (defArgs sOf) (defBody sOf) (defScope sOf) [] [] (He.ga K "_law_of") fd := c.def_ 15
  have F16 := fun_of FD16
  have m16 := He.glo_ok X G (c.fact 15 (f := fun K => (He.Fa.glo "_law_of").ok K) rfl)
  have b16 := F16.binds (ps := ["bag", "some"]) fun _ _ _ _ _ _ us hl => match us, hl with | [_, _], _ => rfl
  obtain ⟨fd17, FD17⟩ : ∃ fd, FunD K "_law_kinds" "_law_kinds" (defArgs sKinds) (defBody sKinds) (defScope sKinds) [] [] (He.ga K "_law_kinds") fd := c.def_ 16
  have F17 := fun_of FD17
  have m17 := He.glo_ok X G (c.fact 16 (f := fun K => (He.Fa.glo "_law_kinds").ok K) rfl)
  have b17 := F17.binds (ps := ["e"]) fun _ _ _ _ _ _ us hl => match us, hl with | [_], _ => rfl
  obtain ⟨fd18, FD18⟩ : ∃ fd, FunD K "_law_keys" "_law_keys" (defArgs sKeys) (defBody sKeys) (defScope sKeys) [] [] (He.ga K "_law_keys") fd := c.def_ 17
  have F18 := fun_of FD18
  have m18 := He.glo_ok X G (c.fact 17 (f := fun K => (He.Fa.glo "_law_keys").ok K) rfl)
  have b18 := F18.binds (ps := ["bag"]) fun _ _ _ _ _ _ us hl => match us, hl with | [_], _ => rfl
  obtain ⟨fd19, FD19⟩ : ∃ fd, FunD K "_law_table" "_law_table" (defArgs sTab) (defBody sTab) (defScope sTab) [] [] (He.ga K "_law_table") fd := c.def_ 18
  have F19 := fun_of FD19
  have m19 := He.glo_ok X G (c.fact 18 (f := fun K => (He.Fa.glo "_law_table").ok K) rfl)
  have b19 := F19.binds (ps := ["bag", "keys"]) fun _ _ _ _ _ _ us hl => match us, hl with | [_, _], _ => rfl
  obtain ⟨fd20, FD20⟩ : ∃ fd, FunD K "_law_changes" "_law_changes" (defArgs sLCh) (defBody sLCh) (defScope sLCh) [] [] (He.ga K "_law_changes") fd := c.def_ 19
  have F20 := fun_of FD20
  have m20 := He.glo_ok X G (c.fact 19 (f := fun K => (He.Fa.glo "_law_changes").ok K) rfl)
  have b20 := F20.binds (ps := ["bag", "keys", "most"]) fun _ _ _ _ _ _ us hl => match us, hl with | [_, _, _], _ => rfl
  obtain ⟨fd21, FD21⟩ : ∃ fd, FunD K "_law_stretch" "_law_stretch" (defArgs sStr) (defBody sStr) (defScope sStr) [] [] (He.ga K "_law_stretch") fd := c.def_ 20
  have F21 := fun_of FD21
  have m21 := He.glo_ok X G (c.fact 20 (f := fun K => (He.Fa.glo "_law_stretch").ok K) rfl)
  have b21 := F21.binds (ps := ["bag", "keys"]) fun _ _ _ _ _ _ us hl => match us, hl with | [_, _], _ => rfl
  obtain ⟨fd22, FD22⟩ : ∃ fd, FunD K "_law_house_call" "_law_house_call" (defArgs sCall) (defBody sCall) (defScope sCall) [] [] (He.ga K "_law_house_call") fd := c.def_ 21
  have F22 := fun_of FD22
  have m22 := He.glo_ok X G (c.fact 21 (f := fun K => (He.Fa.glo "_law_house_call").ok K) rfl)
  have b22 := F22.binds (ps := ["house", "step"]) fun _ _ _ _ _ _ us hl => match us, hl with | [_, _], _ => rfl
  obtain ⟨fd23, FD23⟩ : ∃ fd, FunD K "_law_field" "_law_field" (defArgs sField) (defBody sField) (defScope sField) [] [] (He.ga K "_law_field") fd := c.def_ 22
  have F23 := fun_of FD23
  have m23 := He.glo_ok X G (c.fact 22 (f := fun K => (He.Fa.glo "_law_field").ok K) rfl)
  have b23 := F23.binds (ps := ["e"]) fun _ _ _ _ _ _ us hl => match us, hl with | [_], _ => rfl
  obtain ⟨fd24, FD24⟩ : ∃ fd, FunD K "_law_house_tried" "_law_house_tried" (defArgs sTried) (defBody sTried) (defScope sTried) [] [] (He.ga K "_law_house_tried") fd := c.def_ 23
  have F24 := fun_of FD24
  have m24 := He.glo_ok X G (c.fact 23 (f := fun K => (He.Fa.glo "_law_house_tried").ok K) rfl)
  have b24 := F24.binds (ps := ["house", "step"]) fun _ _ _ _ _ _ us hl => match us, hl with | [_, _], _ => rfl
  obtain ⟨fd25, FD25⟩ : ∃ fd, FunD K "check_place" "check_place" (defArgs sPl) (defBody sPl) (defScope sPl) [] [] (He.ga K "check_place") fd := c.def_ 24
  have F25 := fun_of FD25
  have m25 := He.glo_ok X G (c.fact 24 (f := fun K => (He.Fa.glo "check_place").ok K) rfl)
  have b25 := F25.binds (ps := ["log", "place"]) fun _ _ _ _ _ _ us hl => match us, hl with | [_, _], _ => rfl
  obtain ⟨fd26, FD26⟩ : ∃ fd, FunD K "rows_at" "rows_at" (defArgs sRo) (defBody sRo) (defScope sRo) [] [] (He.ga K "rows_at") fd := c.def_ 25
  have F26 := fun_of FD26
  have m26 := He.glo_ok X G (c.fact 25 (f := fun K => (He.Fa.glo "rows_at").ok K) rfl)
  have b26 := F26.binds (ps := ["table", "log", "place"]) fun _ _ _ _ _ _ us hl => match us, hl with | [_, _, _], _ => rfl
  obtain ⟨fd27, FD27⟩ : ∃ fd, FunD K "least_moments" "least_moments" (defArgs sLm) (defBody sLm) (defScope sLm) [] [] (He.ga K "least_moments") fd := c.def_ 26
  have F27 := fun_of FD27
  have m27 := He.glo_ok X G (c.fact 26 (f := fun K => (He.Fa.glo "least_moments").ok K) rfl)
  have b27 := F27.binds (ps := ["table", "log", "low", "high", "stretch", "rows"]) fun _ _ _ _ _ _ us hl => match us, hl with | [_, _, _, _, _, _], _ => rfl
  obtain ⟨fd28, FD28⟩ : ∃ fd, FunD K "moments" "moments" (defArgs sMo) (defBody sMo) (defScope sMo) [] [] (He.ga K "moments") fd := c.def_ 27
  have F28 := fun_of FD28
  have m28 := He.glo_ok X G (c.fact 27 (f := fun K => (He.Fa.glo "moments").ok K) rfl)
  have b28 := F28.binds (ps := ["table", "log", "low", "high", "stretch", "rows"]) fun _ _ _ _ _ _ us hl => match us, hl with | [_, _, _, _, _, _], _ => rfl
  obtain ⟨fd29, FD29⟩ : ∃ fd, FunD K "odd" "odd" (defArgs sOdd) (defBody sOdd) (defScope sOdd) [] [] (He.ga K "odd") fd := c.def_ 28
  have F29 := fun_of FD29
  have m29 := He.glo_ok X G (c.fact 28 (f := fun K => (He.Fa.glo "odd").ok K) rfl)
  have b29 := F29.binds (ps := ["table", "log", "low", "high", "stretch", "rows"]) fun _ _ _ _ _ _ us hl => match us, hl with | [_, _, _, _, _, _], _ => rfl
  obtain ⟨fd30, FD30⟩ : ∃ fd, FunD K "_law_done" "_law_done" (defArgs sDone) (defBody sDone) (defScope sDone) [] [] (He.ga K "_law_done") fd := c.def_ 29
  have F30 := fun_of FD30
  have m30 := He.glo_ok X G (c.fact 29 (f := fun K => (He.Fa.glo "_law_done").ok K) rfl)
  have b30 := F30.binds (ps := ["rows", "changes"]) fun _ _ _ _ _ _ us hl => match us, hl with | [_, _], _ => rfl
  obtain ⟨fd31, FD31⟩ : ∃ fd, FunD K "_law_pairs" "_law_pairs" (defArgs sPairs) (defBody sPairs) (defScope sPairs) [] [] (He.ga K "_law_pairs") fd := c.def_ 30
  have F31 := fun_of FD31
  have m31 := He.glo_ok X G (c.fact 30 (f := fun K => (He.Fa.glo "_law_pairs").ok K) rfl)
  have b31 := F31.binds (ps := ["rows"]) fun _ _ _ _ _ _ us hl => match us, hl with | [_], _ => rfl
  obtain ⟨fd32, FD32⟩ : ∃ fd, FunD K "_law_groups" "_law_groups" (defArgs sGroups) (defBody sGroups) (defScope sGroups) [] [] (He.ga K "_law_groups") fd := c.def_ 31
  have F32 := fun_of FD32
  have m32 := He.glo_ok X G (c.fact 31 (f := fun K => (He.Fa.glo "_law_groups").ok K) rfl)
  have b32 := F32.binds (ps := ["log"]) fun _ _ _ _ _ _ us hl => match us, hl with | [_], _ => rfl
  obtain ⟨fd33, FD33⟩ : ∃ fd, FunD K "_law_at" "_law_at" (defArgs sAt) (defBody sAt) (defScope sAt) [] [] (He.ga K "_law_at") fd := c.def_ 32
  have F33 := fun_of FD33
  have m33 := He.glo_ok X G (c.fact 32 (f := fun K => (He.Fa.glo "_law_at").ok K) rfl)
  have b33 := F33.binds (ps := ["table", "log", "place"]) fun _ _ _ _ _ _ us hl => match us, hl with | [_, _, _], _ => rfl
  obtain ⟨fd34, FD34⟩ : ∃ fd, FunD K "_law_house_step" "_law_house_step" (defArgs sStep) (defBody sStep) (defScope sStep) [] [] (He.ga K "_law_house_step") fd := c.def_ 33
  have F34 := fun_of FD34
  have m34 := He.glo_ok X G (c.fact 33 (f := fun K => (He.Fa.glo "_law_house_step").ok K) rfl)
  have b34 := F34.binds (ps := ["bag", "house", "keys"]) fun _ _ _ _ _ _ us hl => match us, hl with | [_, _, _], _ => rfl
  obtain ⟨fd35, FD35⟩ : ∃ fd, FunD K "_law_marks_at" "_law_marks_at" (defArgs sMk) (defBody sMk) (defScope sMk) [] [] (He.ga K "_law_marks_at") fd := c.def_ 34
  have F35 := fun_of FD35
  have m35 := He.glo_ok X G (c.fact 34 (f := fun K => (He.Fa.glo "_law_marks_at").ok K) rfl)
  have b35 := F35.binds (ps := ["log", "number"]) fun _ _ _ _ _ _ us hl => match us, hl with | [_, _], _ => rfl
  obtain ⟨fd36, FD36⟩ : ∃ fd, FunD K "law" "law" (defArgs sLaw) (defBody sLaw) (defScope sLaw) [] [] (He.ga K "law") fd := c.def_ 35
  have F36 := fun_of FD36
  have m36 := He.glo_ok X G (c.fact 35 (f := fun K => (He.Fa.glo "law").ok K) rfl)
  have aCH := He.glo_ok X G (c.fact 36 (f := fun K => (He.Fa.glo "House").ok K) rfl)
  obtain ⟨fdHIn, FDHIn⟩ : ∃ fd, FunD K "__init__" "House.__init__" (defArgs mInit) (defBody mInit) (defScope mInit) [.ref (He.dflAt ("House", some "__init__") 0 K)] [] (He.ma K (He.ga K "House") "__init__") fd := c.def_ 36
  obtain ⟨dsHIn, vHIn, bbHIn⟩ := FDHIn.binds1 (ps := ["self", "table"]) 2 1 (by simp) rfl fun _ _ _ _ _ _ _ us its h1 h2 => by
    match us, its, h1, h2 with
    | [u0, u1], [w0], _, _ => exact ⟨_, rfl, rfl⟩
  have bHIn : Binds _ _ _ _ := bbHIn
  cases vHIn
  obtain ⟨dzHIn, vzHIn, bzHIn⟩ := FDHIn.binds1 (ps := ["self", "table"]) 1 0 (by simp) rfl fun _ _ _ _ _ _ _ us its h1 h2 => by
    match us, its, h1, h2 with
    | [u0], [w0], _, _ => exact ⟨_, rfl, rfl⟩
  have e0HIn := tup0_ok (c.fact 38 (f := fun K => tup0B K (He.dflAt ("House", some "__init__") 0 K)) rfl)
  have mkTH := He.mkr_ok (c.fact 39 (f := fun K => (He.Fa.mkr "House").ok K) rfl)
  obtain ⟨fdHCh, FDHCh⟩ : ∃ fd, FunD K "change" "House.change" (defArgs mChange) (defBody mChange) (defScope mChange) [] [] (He.ma K (He.ga K "House") "change") fd := c.def_ 37
  have FHCh := fun_of FDHCh
  have bHCh := FHCh.binds (ps := ["self", "changes"]) fun _ _ _ _ _ _ us hl => match us, hl with | [_, _], _ => rfl
  have qHCh := He.meth_ok (c.fact 40 (f := fun K => (He.Fa.meth "House" "change").ok K) rfl)
  obtain ⟨fdHLi, FDHLi⟩ : ∃ fd, FunD K "life" "House.life" (defArgs mLife) (defBody mLife) (defScope mLife) [] [] (He.ma K (He.ga K "House") "life") fd := c.def_ 38
  have FHLi := fun_of FDHLi
  have bHLi := FHLi.binds (ps := ["self"]) fun _ _ _ _ _ _ us hl => match us, hl with | [_], _ => rfl
  have qHLi := He.meth_ok (c.fact 41 (f := fun K => (He.Fa.meth "House" "life").ok K) rfl)
  obtain ⟨fdHBe, FDHBe⟩ : ∃ fd, FunD K "begin" "House.begin" (defArgs mBegin) (defBody mBegin) (defScope mBegin) [] [] (He.ma K (He.ga K "House") "begin") fd := c.def_ 39
  have FHBe := fun_of FDHBe
  have bHBe := FHBe.binds (ps := ["self", "life", "first", "last"]) fun _ _ _ _ _ _ us hl => match us, hl with | [_, _, _, _], _ => rfl
  have qHBe := He.meth_ok (c.fact 42 (f := fun K => (He.Fa.meth "House" "begin").ok K) rfl)
  obtain ⟨fdHLo, FDHLo⟩ : ∃ fd, FunD K "look" "House.look" (defArgs mLook) (defBody mLook) (defScope mLook) [] [("many", .int 5)] (He.ma K (He.ga K "House") "look") fd := c.def_ 40
  have FHLo := fun_of FDHLo
  have qHLo := He.meth_ok (c.fact 43 (f := fun K => (He.Fa.meth "House" "look").ok K) rfl)
  obtain ⟨fdHFi, FDHFi⟩ : ∃ fd, FunD K "finish" "House.finish" (defArgs mFinish) (defBody mFinish) (defScope mFinish) [] [] (He.ma K (He.ga K "House") "finish") fd := c.def_ 41
  have FHFi := fun_of FDHFi
  have bHFi := FHFi.binds (ps := ["self", "number"]) fun _ _ _ _ _ _ us hl => match us, hl with | [_, _], _ => rfl
  have qHFi := He.meth_ok (c.fact 44 (f := fun K => (He.Fa.meth "House" "finish").ok K) rfl)
  obtain ⟨fdHSt, FDHSt⟩ : ∃ fd, FunD K "stop" "House.stop" (defArgs mStop) (defBody mStop) (defScope mStop) [] [] (He.ma K (He.ga K "House") "stop") fd := c.def_ 42
  have FHSt := fun_of FDHSt
  have bHSt := FHSt.binds (ps := ["self", "number"]) fun _ _ _ _ _ _ us hl => match us, hl with | [_, _], _ => rfl
  have qHSt := He.meth_ok (c.fact 45 (f := fun K => (He.Fa.meth "House" "stop").ok K) rfl)
  obtain ⟨fdHHo, FDHHo⟩ : ∃ fd, FunD K "hold" "House.hold" (defArgs mHold) (defBody mHold) (defScope mHold) [] [] (He.ma K (He.ga K "House") "hold") fd := c.def_ 43
  have FHHo := fun_of FDHHo
  have bHHo := FHHo.binds (ps := ["self", "life", "place"]) fun _ _ _ _ _ _ us hl => match us, hl with | [_, _, _], _ => rfl
  have qHHo := He.meth_ok (c.fact 46 (f := fun K => (He.Fa.meth "House" "hold").ok K) rfl)
  obtain ⟨fdHLe, FDHLe⟩ : ∃ fd, FunD K "leave" "House.leave" (defArgs mLeave) (defBody mLeave) (defScope mLeave) [] [] (He.ma K (He.ga K "House") "leave") fd := c.def_ 44
  have FHLe := fun_of FDHLe
  have bHLe := FHLe.binds (ps := ["self", "life"]) fun _ _ _ _ _ _ us hl => match us, hl with | [_, _], _ => rfl
  have qHLe := He.meth_ok (c.fact 47 (f := fun K => (He.Fa.meth "House" "leave").ok K) rfl)
  obtain ⟨fdHTr, FDHTr⟩ : ∃ fd, FunD K "trim" "House.trim" (defArgs mTrim) (defBody mTrim) (defScope mTrim) [] [] (He.ma K (He.ga K "House") "trim") fd := c.def_ 45
  have FHTr := fun_of FDHTr
  have bHTr := FHTr.binds (ps := ["self", "place"]) fun _ _ _ _ _ _ us hl => match us, hl with | [_, _], _ => rfl
  have qHTr := He.meth_ok (c.fact 48 (f := fun K => (He.Fa.meth "House" "trim").ok K) rfl)
  obtain ⟨fdHTa, FDHTa⟩ : ∃ fd, FunD K "table" "House.table" (defArgs mTable) (defBody mTable) (defScope mTable) [] [] (He.ma K (He.ga K "House") "table") fd := c.def_ 46
  have FHTa := fun_of FDHTa
  have bHTa := FHTa.binds (ps := ["self"]) fun _ _ _ _ _ _ us hl => match us, hl with | [_], _ => rfl
  have qHTa := He.meth_ok (c.fact 49 (f := fun K => (He.Fa.meth "House" "table").ok K) rfl)
  obtain ⟨fdHPl, FDHPl⟩ : ∃ fd, FunD K "places" "House.places" (defArgs mPlaces) (defBody mPlaces) (defScope mPlaces) [] [] (He.ma K (He.ga K "House") "places") fd := c.def_ 47
  have FHPl := fun_of FDHPl
  have bHPl := FHPl.binds (ps := ["self"]) fun _ _ _ _ _ _ us hl => match us, hl with | [_], _ => rfl
  have qHPl := He.meth_ok (c.fact 50 (f := fun K => (He.Fa.meth "House" "places").ok K) rfl)
  obtain ⟨fdHEn, FDHEn⟩ : ∃ fd, FunD K "entries" "House.entries" (defArgs mEntries) (defBody mEntries) (defScope mEntries) [] [("many", .int 5)] (He.ma K (He.ga K "House") "entries") fd := c.def_ 48
  have FHEn := fun_of FDHEn
  have qHEn := He.meth_ok (c.fact 51 (f := fun K => (He.Fa.meth "House" "entries").ok K) rfl)
  obtain ⟨fdHHs, FDHHs⟩ : ∃ fd, FunD K "holds" "House.holds" (defArgs mHolds) (defBody mHolds) (defScope mHolds) [] [] (He.ma K (He.ga K "House") "holds") fd := c.def_ 49
  have FHHs := fun_of FDHHs
  have bHHs := FHHs.binds (ps := ["self"]) fun _ _ _ _ _ _ us hl => match us, hl with | [_], _ => rfl
  have qHHs := He.meth_ok (c.fact 52 (f := fun K => (He.Fa.meth "House" "holds").ok K) rfl)
  obtain ⟨fdHRs, FDHRs⟩ : ∃ fd, FunD K "readings" "House.readings" (defArgs mReadings) (defBody mReadings) (defScope mReadings) [] [] (He.ma K (He.ga K "House") "readings") fd := c.def_ 50
  have FHRs := fun_of FDHRs
  have bHRs := FHRs.binds (ps := ["self"]) fun _ _ _ _ _ _ us hl => match us, hl with | [_], _ => rfl
  have qHRs := He.meth_ok (c.fact 53 (f := fun K => (He.Fa.meth "House" "readings").ok K) rfl)
  obtain ⟨fdHRo, FDHRo⟩ : ∃ fd, FunD K "running_one" "House.running_one" (defArgs mRone) (defBody mRone) (defScope mRone) [] [] (He.ma K (He.ga K "House") "running_one") fd := c.def_ 51
  have FHRo := fun_of FDHRo
  have bHRo := FHRo.binds (ps := ["self", "number"]) fun _ _ _ _ _ _ us hl => match us, hl with | [_, _], _ => rfl
  have qHRo := He.meth_ok (c.fact 54 (f := fun K => (He.Fa.meth "House" "running_one").ok K) rfl)
  obtain ⟨fdHCl, FDHCl⟩ : ∃ fd, FunD K "check_life" "House.check_life" (defArgs mCkl) (defBody mCkl) (defScope mCkl) [] [] (He.ma K (He.ga K "House") "check_life") fd := c.def_ 52
  have FHCl := fun_of FDHCl
  have bHCl := FHCl.binds (ps := ["self", "life"]) fun _ _ _ _ _ _ us hl => match us, hl with | [_, _], _ => rfl
  have qHCl := He.meth_ok (c.fact 55 (f := fun K => (He.Fa.meth "House" "check_life").ok K) rfl)
  obtain ⟨fdHCk, FDHCk⟩ : ∃ fd, FunD K "check_kept" "House.check_kept" (defArgs mCkk) (defBody mCkk) (defScope mCkk) [] [] (He.ma K (He.ga K "House") "check_kept") fd := c.def_ 53
  have FHCk := fun_of FDHCk
  have bHCk := FHCk.binds (ps := ["self", "place"]) fun _ _ _ _ _ _ us hl => match us, hl with | [_, _], _ => rfl
  have qHCk := He.meth_ok (c.fact 56 (f := fun K => (He.Fa.meth "House" "check_kept").ok K) rfl)
  have TH : HTx K mg (He.ga K "House") := ⟨He.cls_ok (c.fact 37 (f := fun K => (He.Fa.cls "House").ok K) rfl), He.noat_ok (c.fact 57 (f := fun K => (He.Fa.noat "House" "worths").ok K) rfl), He.noat_ok (c.fact 58 (f := fun K => (He.Fa.noat "House" "kept").ok K) rfl), He.noat_ok (c.fact 59 (f := fun K => (He.Fa.noat "House" "first_kept").ok K) rfl), He.noat_ok (c.fact 60 (f := fun K => (He.Fa.noat "House" "lives_given").ok K) rfl), He.noat_ok (c.fact 61 (f := fun K => (He.Fa.noat "House" "begun").ok K) rfl), He.noat_ok (c.fact 62 (f := fun K => (He.Fa.noat "House" "living").ok K) rfl), He.noat_ok (c.fact 63 (f := fun K => (He.Fa.noat "House" "running").ok K) rfl), aCH⟩
  have aCQ := He.glo_ok X G (c.fact 64 (f := fun K => (He.Fa.glo "Reading").ok K) rfl)
  obtain ⟨fdQIn, FDQIn⟩ : ∃ fd, FunD K "__init__" "Reading.__init__" (defArgs rInit) (defBody rInit) (defScope rInit) [] [] (He.ma K (He.ga K "Reading") "__init__") fd := c.def_ 54
  have FQIn := fun_of FDQIn
  have bQIn := FQIn.binds (ps := ["self", "owner", "first", "last"]) fun _ _ _ _ _ _ us hl => match us, hl with | [_, _, _, _], _ => rfl
  have mkTQ := He.mkr_ok (c.fact 66 (f := fun K => (He.Fa.mkr "Reading").ok K) rfl)
  obtain ⟨fdQLk, FDQLk⟩ : ∃ fd, FunD K "look_once" "Reading.look_once" (defArgs rLook) (defBody rLook) (defScope rLook) [] [] (He.ma K (He.ga K "Reading") "look_once") fd := c.def_ 55
  have FQLk := fun_of FDQLk
  have bQLk := FQLk.binds (ps := ["self", "worths"]) fun _ _ _ _ _ _ us hl => match us, hl with | [_, _], _ => rfl
  have qQLk := He.meth_ok (c.fact 67 (f := fun K => (He.Fa.meth "Reading" "look_once").ok K) rfl)
  have TQ : RTx K mg (He.ga K "Reading") := ⟨He.cls_ok (c.fact 65 (f := fun K => (He.Fa.cls "Reading").ok K) rfl), He.noat_ok (c.fact 68 (f := fun K => (He.Fa.noat "Reading" "owner").ok K) rfl), He.noat_ok (c.fact 69 (f := fun K => (He.Fa.noat "Reading" "stretch").ok K) rfl), He.noat_ok (c.fact 70 (f := fun K => (He.Fa.noat "Reading" "found").ok K) rfl), He.noat_ok (c.fact 71 (f := fun K => (He.Fa.noat "Reading" "ended").ok K) rfl), aCQ⟩
  have zEN := He.ba (c.fact 74 (f := fun K => eqE K "NoTable" && excB K (He.ga K "NoTable") flNt) rfl)
  have EN : ExC K mg "NoTable" (He.ga K "NoTable") flNt := excB_ok X G (He.eqO_ok zEN.1) zEN.2
  have d0N : OwnE0 K mg "NoTable" (He.ga K "NoTable") He.veBase := by
    have z := He.exc_ok (c.fact 73 (f := fun K => (He.Fa.exc "NoTable").ok K) rfl)
    exact ⟨z.1, He.glo_ok X G (c.fact 72 (f := fun K => (He.Fa.glo "NoTable").ok K) rfl), z.2.1, z.2.2.1, z.2.2.2⟩
  have zEG := He.ba (c.fact 77 (f := fun K => eqE K "NoChange" && excB K (He.ga K "NoChange") (rfF .noChange)) rfl)
  have EG : ExC K mg "NoChange" (He.ga K "NoChange") (rfF .noChange) := excB_ok X G (He.eqO_ok zEG.1) zEG.2
  have d0G : OwnE0 K mg "NoChange" (He.ga K "NoChange") He.veBase := by
    have z := He.exc_ok (c.fact 76 (f := fun K => (He.Fa.exc "NoChange").ok K) rfl)
    exact ⟨z.1, He.glo_ok X G (c.fact 75 (f := fun K => (He.Fa.glo "NoChange").ok K) rfl), z.2.1, z.2.2.1, z.2.2.2⟩
  have zES := He.ba (c.fact 80 (f := fun K => eqE K "NoStretch" && excB K (He.ga K "NoStretch") (rfF .noStretch)) rfl)
  have ES : ExC K mg "NoStretch" (He.ga K "NoStretch") (rfF .noStretch) := excB_ok X G (He.eqO_ok zES.1) zES.2
  have d0S : OwnE0 K mg "NoStretch" (He.ga K "NoStretch") He.veBase := by
    have z := He.exc_ok (c.fact 79 (f := fun K => (He.Fa.exc "NoStretch").ok K) rfl)
    exact ⟨z.1, He.glo_ok X G (c.fact 78 (f := fun K => (He.Fa.glo "NoStretch").ok K) rfl), z.2.1, z.2.2.1, z.2.2.2⟩
  have zEE := He.ba (c.fact 83 (f := fun K => eqE K "Ended" && excB K (He.ga K "Ended") (rfF .ended)) rfl)
  have EE : ExC K mg "Ended" (He.ga K "Ended") (rfF .ended) := excB_ok X G (He.eqO_ok zEE.1) zEE.2
  have d0E : OwnE0 K mg "Ended" (He.ga K "Ended") He.veBase := by
    have z := He.exc_ok (c.fact 82 (f := fun K => (He.Fa.exc "Ended").ok K) rfl)
    exact ⟨z.1, He.glo_ok X G (c.fact 81 (f := fun K => (He.Fa.glo "Ended").ok K) rfl), z.2.1, z.2.2.1, z.2.2.2⟩
  have zEV := He.ba (c.fact 86 (f := fun K => eqE K "NotEnded" && excB K (He.ga K "NotEnded") (rfF .notEnded)) rfl)
  have EV : ExC K mg "NotEnded" (He.ga K "NotEnded") (rfF .notEnded) := excB_ok X G (He.eqO_ok zEV.1) zEV.2
  have d0V : OwnE0 K mg "NotEnded" (He.ga K "NotEnded") He.veBase := by
    have z := He.exc_ok (c.fact 85 (f := fun K => (He.Fa.exc "NotEnded").ok K) rfl)
    exact ⟨z.1, He.glo_ok X G (c.fact 84 (f := fun K => (He.Fa.glo "NotEnded").ok K) rfl), z.2.1, z.2.2.1, z.2.2.2⟩
  obtain ⟨IL, WL, AL, xoL⟩ := xc_ok (P := P) (fld := "who") (fl := (rfF .noLife)) X G xP (c.exc 0) (by have h := c.fact 87 (f := fun K => xcB K fileN "NoLife" "who" (rfF .noLife)) rfl; rw [← xFile] at h; exact h)
  have EL : ExC K mg "NoLife" (He.ga K "NoLife") (rfF .noLife) := xoL.E
  have xNL : PySem.W.findIn K (.ref (He.ga K "NoLife")) "who" = some none := xoL.no
  obtain ⟨IR, WR, AR, xoR⟩ := xc_ok (P := P) (fld := "number") (fl := (rfF .noReading)) X G xP (c.exc 1) (by have h := c.fact 88 (f := fun K => xcB K fileN "NoReading" "number" (rfF .noReading)) rfl; rw [← xFile] at h; exact h)
  have ER : ExC K mg "NoReading" (He.ga K "NoReading") (rfF .noReading) := xoR.E
  have xNR : PySem.W.findIn K (.ref (He.ga K "NoReading")) "number" = some none := xoR.no
  obtain ⟨IP, WP, AP, xoP⟩ := xc_ok (P := P) (fld := "at") (fl := (rfF .noPlace)) X G xP (c.exc 2) (by have h := c.fact 89 (f := fun K => xcB K fileN "NoPlace" "at" (rfF .noPlace)) rfl; rw [← xFile] at h; exact h)
  have EP : ExC K mg "NoPlace" (He.ga K "NoPlace") (rfF .noPlace) := xoP.E
  have xNP : PySem.W.findIn K (.ref (He.ga K "NoPlace")) "at" = some none := xoP.no
  obtain ⟨ID, WD, AD, xoD⟩ := xc_ok (P := P) (fld := "who") (fl := (rfF .held)) X G xP (c.exc 3) (by have h := c.fact 90 (f := fun K => xcB K fileN "Held" "who" (rfF .held)) rfl; rw [← xFile] at h; exact h)
  have ED : ExC K mg "Held" (He.ga K "Held") (rfF .held) := xoD.E
  have xND : PySem.W.findIn K (.ref (He.ga K "Held")) "who" = some none := xoD.no
  obtain ⟨IM, WM, AM, xoM⟩ := xc_ok (P := P) (fld := "many") (fl := (rfF .tooMany)) X G xP (c.exc 4) (by have h := c.fact 91 (f := fun K => xcB K fileN "TooMany" "many" (rfF .tooMany)) rfl; rw [← xFile] at h; exact h)
  have EM : ExC K mg "TooMany" (He.ga K "TooMany") (rfF .tooMany) := xoM.E
  have xNM : PySem.W.findIn K (.ref (He.ga K "TooMany")) "many" = some none := xoM.no
  obtain ⟨IT, WT, AT, xoT⟩ := xc_ok (P := P) (fld := "at") (fl := flTr) X G xP (c.exc 5) (by have h := c.fact 92 (f := fun K => xcB K fileN "Trimmed" "at" flTr) rfl; rw [← xFile] at h; exact h)
  have ET : ExC K mg "Trimmed" (He.ga K "Trimmed") flTr := xoT.E
  have xNT : PySem.W.findIn K (.ref (He.ga K "Trimmed")) "at" = some none := xoT.no
  have mTE := He.glo_ok X G (c.fact 93 (f := fun K => (He.Fa.glo "TideError").ok K) rfl)
  have eTG := He.exm_ok (c.fact 94 (f := fun K => (He.Fa.exm "NoChange" "TideError" true).ok K) rfl)
  have eTS := He.exm_ok (c.fact 95 (f := fun K => (He.Fa.exm "NoStretch" "TideError" true).ok K) rfl)
  have eTE := He.exm_ok (c.fact 96 (f := fun K => (He.Fa.exm "Ended" "TideError" true).ok K) rfl)
  have eTV := He.exm_ok (c.fact 97 (f := fun K => (He.Fa.exm "NotEnded" "TideError" true).ok K) rfl)
  have eTL := He.exm_ok (c.fact 98 (f := fun K => (He.Fa.exm "NoLife" "TideError" true).ok K) rfl)
  have eTR := He.exm_ok (c.fact 99 (f := fun K => (He.Fa.exm "NoReading" "TideError" true).ok K) rfl)
  have eTP := He.exm_ok (c.fact 100 (f := fun K => (He.Fa.exm "NoPlace" "TideError" true).ok K) rfl)
  have eTD := He.exm_ok (c.fact 101 (f := fun K => (He.Fa.exm "Held" "TideError" true).ok K) rfl)
  have eTM := He.exm_ok (c.fact 102 (f := fun K => (He.Fa.exm "TooMany" "TideError" true).ok K) rfl)
  have eTT := He.exm_ok (c.fact 103 (f := fun K => (He.Fa.exm "Trimmed" "TideError" true).ok K) rfl)
  have N : Names mg := ⟨He.free_ok X G (c.fact 104 (f := fun K => (He.Fa.free "isinstance").ok K) rfl), He.free_ok X G (c.fact 105 (f := fun K => (He.Fa.free "int").ok K) rfl), He.free_ok X G (c.fact 106 (f := fun K => (He.Fa.free "bool").ok K) rfl), He.free_ok X G (c.fact 107 (f := fun K => (He.Fa.free "tuple").ok K) rfl), He.free_ok X G (c.fact 108 (f := fun K => (He.Fa.free "list").ok K) rfl), He.free_ok X G (c.fact 109 (f := fun K => (He.Fa.free "str").ok K) rfl), He.free_ok X G (c.fact 110 (f := fun K => (He.Fa.free "len").ok K) rfl), He.free_ok X G (c.fact 111 (f := fun K => (He.Fa.free "set").ok K) rfl), He.free_ok X G (c.fact 112 (f := fun K => (He.Fa.free "sorted").ok K) rfl), He.free_ok X G (c.fact 113 (f := fun K => (He.Fa.free "range").ok K) rfl), He.free_ok X G (c.fact 114 (f := fun K => (He.Fa.free "abs").ok K) rfl), He.free_ok X G (c.fact 115 (f := fun K => (He.Fa.free "min").ok K) rfl), He.free_ok X G (c.fact 116 (f := fun K => (He.Fa.free "max").ok K) rfl), He.free_ok X G (c.fact 117 (f := fun K => (He.Fa.free "dict").ok K) rfl), He.free_ok X G (c.fact 118 (f := fun K => (He.Fa.free "all").ok K) rfl), He.free_ok X G (c.fact 119 (f := fun K => (He.Fa.free "ValueError").ok K) rfl), He.free_ok X G (c.fact 120 (f := fun K => (He.Fa.free "enumerate").ok K) rfl), He.int_ok X G (c.fact 121 (f := fun K => (He.Fa.int "KEYS" 1000).ok K) rfl), He.int_ok X G (c.fact 122 (f := fun K => (He.Fa.int "WORTHS" 1000).ok K) rfl), He.int_ok X G (c.fact 123 (f := fun K => (He.Fa.int "MOST_ROWS" 100).ok K) rfl), He.int_ok X G (c.fact 124 (f := fun K => (He.Fa.int "MOST_CHANGES" 6).ok K) rfl)⟩
  have e := hfa.symm.trans m36
  cases e
  have bl := FunD.bindsA (ps := ["script"]) FD36 fun _ _ _ _ _ _ us hl => match us, hl with | [_], _ => rfl
  refine ⟨fd36, fun s v => bl s [v] rfl, fun base _ _ => ?_⟩
  have dXL : OwnE P w K mg base "NoLife" (He.ga K "NoLife") ["self", "who"] 1 (spX1 (He.ga K "NoLife") "who") := by
    obtain ⟨oc, od, sl, kv, dc, pm, an, ct, lk⟩ := xoL.F
    exact ⟨_, _, ok_XL (k := 0) lk xoL.cd xoL.T xoL.cW xoL.no xoL.Z, xoL.T, xoL.iC, xoL.tI, xoL.mgC, .all fun us hl => match us, hl with | [_, _], _ => rfl⟩
  have dXR : OwnE P w K mg base "NoReading" (He.ga K "NoReading") ["self", "number"] 1 (spX1 (He.ga K "NoReading") "number") := by
    obtain ⟨oc, od, sl, kv, dc, pm, an, ct, lk⟩ := xoR.F
    exact ⟨_, _, ok_XR (k := 0) lk xoR.cd xoR.T xoR.cW xoR.no xoR.Z, xoR.T, xoR.iC, xoR.tI, xoR.mgC, .all fun us hl => match us, hl with | [_, _], _ => rfl⟩
  have dXP : OwnE P w K mg base "NoPlace" (He.ga K "NoPlace") ["self", "at"] 1 (spX1 (He.ga K "NoPlace") "at") := by
    obtain ⟨oc, od, sl, kv, dc, pm, an, ct, lk⟩ := xoP.F
    exact ⟨_, _, ok_XP (k := 0) lk xoP.cd xoP.T xoP.cW xoP.no xoP.Z, xoP.T, xoP.iC, xoP.tI, xoP.mgC, .all fun us hl => match us, hl with | [_, _], _ => rfl⟩
  have dXD : OwnE P w K mg base "Held" (He.ga K "Held") ["self", "who"] 1 (spX1 (He.ga K "Held") "who") := by
    obtain ⟨oc, od, sl, kv, dc, pm, an, ct, lk⟩ := xoD.F
    exact ⟨_, _, ok_XD (k := 0) lk xoD.cd xoD.T xoD.cW xoD.no xoD.Z, xoD.T, xoD.iC, xoD.tI, xoD.mgC, .all fun us hl => match us, hl with | [_, _], _ => rfl⟩
  have dXM : OwnE P w K mg base "TooMany" (He.ga K "TooMany") ["self", "many"] 1 (spX1 (He.ga K "TooMany") "many") := by
    obtain ⟨oc, od, sl, kv, dc, pm, an, ct, lk⟩ := xoM.F
    exact ⟨_, _, ok_XM (k := 0) lk xoM.cd xoM.T xoM.cW xoM.no xoM.Z, xoM.T, xoM.iC, xoM.tI, xoM.mgC, .all fun us hl => match us, hl with | [_, _], _ => rfl⟩
  have dXT : OwnE P w K mg base "Trimmed" (He.ga K "Trimmed") ["self", "at"] 1 (spX1 (He.ga K "Trimmed") "at") := by
    obtain ⟨oc, od, sl, kv, dc, pm, an, ct, lk⟩ := xoT.F
    exact ⟨_, _, ok_XT (k := 0) lk xoT.cd xoT.T xoT.cW xoT.no xoT.Z, xoT.T, xoT.iC, xoT.tI, xoT.mgC, .all fun us hl => match us, hl with | [_, _], _ => rfl⟩
  have dNum : Own P w K mg base "is_number" ["thing"] 1 (spTold K isNum) := ⟨_, _, ok_num (k := 0) F1 N, m1, F1.kp, b1⟩
  have dKey : Own P w K mg base "is_key" ["thing"] 2 (spTold K isKey) := ⟨_, _, ok_key F2 N dNum, m2, F2.kp, b2⟩
  have dWor : Own P w K mg base "is_worth" ["thing"] 2 (spTold K isKey) := ⟨_, _, ok_worth F3 N dNum, m3, F3.kp, b3⟩
  have dRow : Own P w K mg base "is_row" ["thing"] 3 (spTold K isRow) := ⟨_, _, ok_row F4 N dKey dWor, m4, F4.kp, b4⟩
  have dRows : Own P w K mg base "is_rows" ["thing", "first", "last"] 4 (spRowsT K) := ⟨_, _, ok_rows F5 N dRow, m5, F5.kp, b5⟩
  have dI : Own P w K mg base "is_table" ["thing"] 5 (spTold K isTable) := ⟨_, _, ok_table F6 N dRows, m6, F6.kp, b6⟩
  have dRi : Own P w K mg base "rising" ["rows"] 1 (spRising K) := ⟨_, _, ok_rising (k := 0) F11 N, m11, F11.kp, b11⟩
  have dCh : Own P w K mg base "is_change" ["thing"] 3 (spTold K isCh) := ⟨_, _, ok_ch F7 N dKey dWor, m7, F7.kp, b7⟩
  have dG : Own P w K mg base "is_group" ["thing"] 4 (spTold K isGr) := ⟨_, _, ok_gr F8 N dCh, m8, F8.kp, b8⟩
  have dCo : Own P w K mg base "changes_of" ["entry"] 1 (spChsOf K) := ⟨_, _, ok_chsOf (k := 0) F9 N, m9, F9.kp, b9⟩
  have dCa : Own P w K mg base "carry" ["rows", "log", "low", "high"] 2 (spCarryM K) := ⟨_, _, ok_carry (k := 1) F10 N dCo (by decide), m10, F10.kp, b10⟩
  have dSt : Own P w K mg base "is_stretch" ["first", "last"] 1 spStr1 := ⟨_, _, ok_str1 (k := 0) F12 N, m12, F12.kp, b12⟩
  have dLe : Own P w K mg base "least_row" ["rows", "first", "last"] 1 spLeast := ⟨_, _, ok_least (k := 0) F13 N.range, m13, F13.kp, b13⟩
  have dT : Own P w K mg base "_law_take" ["bag", "man1"] 1 spTake := ⟨_, _, ok_take (k := 0) F15, m15, F15.kp, b15⟩
  have dB : Own P w K mg base "_law_bag" ["script", "k"] 1 (spBag K) := ⟨_, _, ok_bag (k := 0) F14 N, m14, F14.kp, b14⟩
  have dOf : Own P w K mg base "_law_of" ["bag", "some"] 2 spOf := ⟨_, _, ok_of (k := 1) (kO := 0) (kC := 0) F16 N dT (by decide), m16, F16.kp, b16⟩
  have dKs : Own P w K mg base "_law_keys" ["bag"] 2 spKeysR := ⟨_, _, ok_keys F18 N dT, m18, F18.kp, b18⟩
  have dTab : Own P w K mg base "_law_table" ["bag", "keys"] 2 (spTabR K) := ⟨_, _, ok_tab F19 N dT, m19, F19.kp, b19⟩
  have dLC : Own P w K mg base "_law_changes" ["bag", "keys", "most"] 3 (spChsL K) := ⟨_, _, ok_chs (k := 2) (kC := 0) F20 N dT (by decide) dOf (by decide), m20, F20.kp, b20⟩
  have dStr : Own P w K mg base "_law_stretch" ["bag", "keys"] 3 (spStr K) := ⟨_, _, ok_str (k := 2) F21 N dT (by decide) dOf (by decide), m21, F21.kp, b21⟩
  have dKi : OwnP P w K mg base "_law_kinds" ["e"] 1 (spKinds K mg) := ⟨_, _, ok_kinds (k := 0) F17 N, m17, F17.kp, b17⟩
  have dFi : OwnP P w K mg base "_law_field" ["e"] 1 (spFieldN K mg) := ⟨_, _, ok_field (k := 0) F23 N, m23, F23.kp, b23⟩
  have KI : FnOk P w K mg base (L2N.CX P w) 6 _ _ ["self", "table"] (spHInit K (He.ga K "House") (He.ga K "NoTable")) := ok_hinit (k := 5) FDHIn TH PySem.F.excBase_ValueError d0N dI (by decide)
  have KQ : FnOk P w K mg base CX0 1 _ _ ["self", "owner", "first", "last"] (spRIn K (He.ga K "Reading")) := ok_rin (k := 0) FQIn TQ
  have mTa : MethX P w K mg base (He.ga K "House") "table" ["self"] 2 (spTbl K (He.ga K "House") (He.ga K "Reading")) := ⟨_, _, ok_tbl (k := 1) FHTa N TH dRi (by decide), bHTa, qHTa⟩
  have mPl : MethX P w K mg base (He.ga K "House") "places" ["self"] 1 (spPls K (He.ga K "House") (He.ga K "Reading")) := ⟨_, _, ok_pls (k := 0) FHPl N TH, bHPl, qHPl⟩
  have mHs : MethX P w K mg base (He.ga K "House") "holds" ["self"] 1 (spHos K (He.ga K "House") (He.ga K "Reading")) := ⟨_, _, ok_hos (k := 0) FHHs N TH, bHHs, qHHs⟩
  have mRs : MethX P w K mg base (He.ga K "House") "readings" ["self"] 1 (spRds K (He.ga K "House") (He.ga K "Reading")) := ⟨_, _, ok_rds (k := 0) FHRs N TH TQ, bHRs, qHRs⟩
  have mLi : MethX P w K mg base (He.ga K "House") "life" ["self"] 1 (spLif K (He.ga K "House") (He.ga K "Reading")) := ⟨_, _, ok_lif (k := 0) FHLi N TH, bHLi, qHLi⟩
  have mCl : MethX P w K mg base (He.ga K "House") "check_life" ["self", "life"] 3 (spCkl K (He.ga K "House") (He.ga K "Reading") (He.ga K "NoLife")) := ⟨_, _, ok_ckl (k := 2) FHCl N TH dXL (by decide), bHCl, qHCl⟩
  have mCk : MethX P w K mg base (He.ga K "House") "check_kept" ["self", "place"] 3 (spCkk K (He.ga K "House") (He.ga K "Reading") (He.ga K "NoPlace")) := ⟨_, _, ok_ckk (k := 2) FHCk N TH mPl (by decide) dXP (by decide), bHCk, qHCk⟩
  have mRo : MethX P w K mg base (He.ga K "House") "running_one" ["self", "number"] 3 (spRone K (He.ga K "House") (He.ga K "Reading") (He.ga K "NoReading")) := ⟨_, _, ok_rone (k := 2) FHRo N TH dXR (by decide), bHRo, qHRo⟩
  have mHo : MethX P w K mg base (He.ga K "House") "hold" ["self", "life", "place"] 4 (spHold K (He.ga K "House") (He.ga K "Reading") (He.ga K "NoLife") (He.ga K "NoPlace")) := ⟨_, _, ok_hold (k := 3) FHHo N TH mCl (by decide) mCk (by decide), bHHo, qHHo⟩
  have mSt : MethX P w K mg base (He.ga K "House") "stop" ["self", "number"] 4 (spStop K (He.ga K "House") (He.ga K "Reading") (He.ga K "NoReading")) := ⟨_, _, ok_stop (k := 3) FHSt N TH mRo (by decide), bHSt, qHSt⟩
  have mTr : MethX P w K mg base (He.ga K "House") "trim" ["self", "place"] 4 (spTrim K (He.ga K "House") (He.ga K "Reading") (He.ga K "NoPlace") (He.ga K "Held")) := ⟨_, _, ok_trim (k := 3) FHTr N TH mCk (by decide) mHs (by decide) dXD (by decide), bHTr, qHTr⟩
  have mLe : MethX P w K mg base (He.ga K "House") "leave" ["self", "life"] 4 (spLeave K (He.ga K "House") (He.ga K "Reading") (He.ga K "NoLife")) := ⟨_, _, ok_leave (k := 3) FHLe N TH TQ mCl (by decide), bHLe, qHLe⟩
  have mLk : MethX P w K mg base (He.ga K "Reading") "look_once" ["self", "worths"] 2 (spLk1 K (He.ga K "Reading")) := ⟨_, _, ok_lk1 (k := 1) FQLk TQ dLe (by decide), bQLk, qQLk⟩
  have mBe : MethX P w K mg base (He.ga K "House") "begin" ["self", "life", "first", "last"] 4 (spBegin K (He.ga K "House") (He.ga K "Reading") (He.ga K "NoLife") (He.ga K "NoStretch")) := ⟨_, _, ok_begin (k := 3) FHBe N TH TQ mkTQ KQ bQIn (by decide) PySem.F.excBase_ValueError d0S dSt (by decide) mCl (by decide), bHBe, qHBe⟩
  have mFi : MethX P w K mg base (He.ga K "House") "finish" ["self", "number"] 4 (spFin K (He.ga K "House") (He.ga K "Reading") (He.ga K "NoReading") (He.ga K "NotEnded")) := ⟨_, _, ok_fin (k := 3) FHFi N TH TQ PySem.F.excBase_ValueError d0V mRo (by decide), bHFi, qHFi⟩
  have mCh : MethX P w K mg base (He.ga K "House") "change" ["self", "changes"] 5 (spChg K (He.ga K "House") (He.ga K "Reading") (He.ga K "NoChange") (He.ga K "TooMany")) := ⟨_, _, ok_chg (k := 4) FHCh N TH PySem.F.excBase_ValueError d0G dG (by decide) dCa (by decide) dXM (by decide), bHCh, qHCh⟩
  have mLo : MethXN P w K mg base (He.ga K "House") "look" ["self", "number", "many"] 1 ["many"] 4 (spLook K (He.ga K "House") (He.ga K "Reading") (He.ga K "NoReading") (He.ga K "Ended")) := ⟨_, _, ok_look (k := 3) FHLo N TH TQ PySem.F.excBase_ValueError d0E mRo (by decide) mLk (by decide), kb_lo FHLo, qHLo⟩
  have mEn : MethXN P w K mg base (He.ga K "House") "entries" ["self", "place", "many"] 1 ["many"] 3 (spEnt K (He.ga K "House") (He.ga K "Reading") (He.ga K "NoPlace") (He.ga K "Trimmed")) := ⟨_, _, ok_ent (k := 2) FHEn N TH mPl (by decide) dXP (by decide) dXT (by decide), kb_en FHEn, qHEn⟩
  obtain ⟨dsE, vsE, bdE⟩ := kd_en FDHEn
  have mEd : MethXD P w K mg base (He.ga K "House") "entries" ["self", "place", "many"] [.int 5] 3 (spEnt K (He.ga K "House") (He.ga K "Reading") (He.ga K "NoPlace") (He.ga K "Trimmed")) := ⟨_, _, dsE, ok_ent (k := 2) FHEn N TH mPl (by decide) dXP (by decide) dXT (by decide), vsE, bdE, qHEn⟩
  have RX : RfX K mg (He.ga K "TideError") (fun r => He.ga K (rfX r)) := ⟨fun r => match r with | .noChange => EG | .noStretch => ES | .ended => EE | .notEnded => EV | .noLife => EL | .noReading => ER | .noPlace => EP | .held => ED | .tooMany => EM, fun r => match r with | .noChange => eTG | .noStretch => eTS | .ended => eTE | .notEnded => eTV | .noLife => eTL | .noReading => eTR | .noPlace => eTP | .held => eTD | .tooMany => eTM, fun r n h => match r, n, h with
    | .noLife, _, h => by cases h; exact xNL
    | .noReading, _, h => by cases h; exact xNR
    | .noPlace, _, h => by cases h; exact xNP
    | .held, _, h => by cases h; exact xND
    | .tooMany, _, h => by cases h; exact xNM
    | .noChange, _, h => by cases h
    | .noStretch, _, h => by cases h
    | .ended, _, h => by cases h
    | .notEnded, _, h => by cases h⟩
  have dCl : OwnX P w K mg base "_law_house_call" ["house", "step"] 6 (spCallH K (He.ga K "House") (He.ga K "Reading") (fun r => He.ga K (rfX r))) := ⟨_, _, ok_callH (k := 5) F22 TH mCh (by decide) mLi (by decide) mBe (by decide) mFi (by decide) mSt (by decide) mHo (by decide) mLe (by decide) mTr (by decide) mLo (by decide), m22, F22.kp, b22⟩
  have dTr : Own P w K mg base "_law_house_tried" ["house", "step"] 7 (spTriedH K (He.ga K "House") (He.ga K "Reading")) := ⟨_, _, ok_triedH (k := 6) F24 mTE RX dCl (by decide) dKi (by decide) dFi (by decide), m24, F24.kp, b24⟩
  have dPlc : Own P w K mg base "check_place" ["log", "place"] 1 (spPlace K) := ⟨_, _, ok_place (k := 0) F25 N, m25, F25.kp, b25⟩
  have dRo : Own P w K mg base "rows_at" ["table", "log", "place"] 3 (spRowsAtM K) := ⟨_, _, ok_rowsAt (k := 2) F26 N dCa (by decide), m26, F26.kp, b26⟩
  have dLm : Own P w K mg base "least_moments" ["table", "log", "low", "high", "stretch", "rows"] 4 (spLm K) := ⟨_, _, ok_lm (k := 3) F27 N dPlc (by decide) dRo (by decide) dCa (by decide) dLe (by decide), m27, F27.kp, b27⟩
  have dMo : Own P w K mg base "moments" ["table", "log", "low", "high", "stretch", "rows"] 5 (spMo K) := ⟨_, _, ok_mo (k := 4) F28 N dLm (by decide), m28, F28.kp, b28⟩
  have dOd : Own P w K mg base "odd" ["table", "log", "low", "high", "stretch", "rows"] 5 (spOdd K) := ⟨_, _, ok_odd (k := 4) F29 N dLm (by decide), m29, F29.kp, b29⟩
  have dDo : Own P w K mg base "_law_done" ["rows", "changes"] 1 (spDone K) := ⟨_, _, ok_done (k := 0) F30, m30, F30.kp, b30⟩
  have dPa : Own P w K mg base "_law_pairs" ["rows"] 1 (spPairs K) := ⟨_, _, ok_pairs (k := 0) F31 N, m31, F31.kp, b31⟩
  have dGs : Own P w K mg base "_law_groups" ["log"] 1 (spGroups K) := ⟨_, _, ok_groups (k := 0) F32, m32, F32.kp, b32⟩
  have dAt : Own P w K mg base "_law_at" ["table", "log", "place"] 2 (spAt K) := ⟨_, _, ok_at (k := 1) F33 N dGs (by decide) dDo (by decide) dPa (by decide), m33, F33.kp, b33⟩
  have dMk : Own P w K mg base "_law_marks_at" ["log", "number"] 1 (spMk K) := ⟨_, _, ok_mk (k := 0) F35 N, m35, F35.kp, b35⟩
  have dOi : Own P w K mg base "_law_of" ["bag", "some"] 2 spOfI := ⟨_, _, ok_ofI (k := 1) F16 N dT (by decide), m16, F16.kp, b16⟩
  have dSp : Own P w K mg base "_law_house_step" ["bag", "house", "keys"] 4 (spStep K (He.ga K "House") (He.ga K "Reading")) := ⟨_, _, ok_step (k := 3) F34 N TH dT (by decide) dOi (by decide) dLC (by decide) dStr (by decide) mHs (by decide) mRs (by decide) mPl (by decide), m34, F34.kp, b34⟩
  exact ok_law (k := 7) F36 N TH mkTH KI (by decide) bHIn dT (by decide) dB (by decide) dTab (by decide) dKs (by decide) dSp (by decide) dTr (by decide) dAt (by decide) dMk (by decide) dMo (by decide) dOd (by decide) mLi (by decide) mHo (by decide) mTa (by decide) mPl (by decide) mEn (by decide)
abbrev R : PySem.W.OpenRow := PySem.W.OpenLaw.row PySem.Challenge.rw_tidecopy_k18_whole_the_log_tells_the_tab
abbrev hk : PySem.W.Hook := hookM 5 hfs hfn hxs
def ob (s : PySem.W.SharedT) : AlM := obsMG 5 hfs hfn hxs (HandSHeadRun.getT s)
theorem ob_eq (s : PySem.W.SharedT) : ob s = hk.obs s.abs := obsMG_eq (HandSHeadRun.getT_eq s)
def loose : List Str := (["_wall", "TideError", "ToldError", "AskedError", "NoTable", "NoChange", "NoStretch", "NoRows", "NoName", "NoText", "NoRow", "TooMany", "Twice", "NoPlace", "NoLife", "NoReading", "Ended", "NotEnded", "Held", "Trimmed", "Waits", "NotAsked", "NoKey", "NotSure", "NoTaker", "NotOnWire", "NothingLeft", "KEYS", "WORTHS", "MOST_ROWS", "MOST_CHANGES", "is_number", "is_key", "is_worth", "is_row", "is_rows", "is_table", "is_change", "is_group", "check_place", "changes_of", "carry", "rows_at", "rising", "is_stretch", "least_row", "least_moments", "moments", "odd", "FEW", "Reading", "House", "_law_bag", "_law_take", "_law_of", "_law_kinds", "_law_keys", "_law_table", "_law_changes", "_law_done", "_law_pairs", "_law_groups", "_law_at", "_law_stretch", "_law_house_call", "_law_field", "_law_house_tried", "_law_house_step", "_law_marks_at"] : List String).map Str.ofString
end K18
set_option maxHeartbeats 0
namespace K18
open PySem L2 PyProof.Rows Tc
theorem run (w : World) : HandSHeadRun.RunEq R (PySem.W.view R.prog [74]) hk ob 20000 loose w := by
  intro os
  kernel_rfl
end K18
open PySem PySem.W PyProof.Rows
theorem PySem.Challenge.cw_tidecopy_k18_whole_the_log_tells_the_tab_holds : PySem.Challenge.rw_tidecopy_k18_whole_the_log_tells_the_tab.Holds := by
  w_on; o_law
  refine HandSHeadRun.head_any (r := OpenLaw.row PySem.Challenge.rw_tidecopy_k18_whole_the_log_tells_the_tab) (q := view (OpenLaw.row PySem.Challenge.rw_tidecopy_k18_whole_the_log_tells_the_tab).prog [74]) (H := K18.hk) (ob := K18.ob) (M := 20000) (loose := K18.loose) (d := HandSHeadRun.topDef (OpenLaw.row PySem.Challenge.rw_tidecopy_k18_whole_the_log_tells_the_tab).prog 74) (kwd := []) K18.ob_eq
    (by kernel_rfl) (fun s => by kernel_rfl) K18.run (by kernel_rfl) (by kernel_rfl) (by kernel_rfl) (by rfl) (by first | assumption | decide +kernel) (by decide +kernel) ⟨rfl, rfl, rfl, rfl, rfl, by decide +kernel⟩ ?hw ?hc
  case hw => w_witness2
  case hc =>
    refine L2.walk_ofE (l := PySem.Challenge.rw_tidecopy_k18_whole_the_log_tells_the_tab) (n := 63) (k := 8) (x := "script") (CX := L2.CX0) rfl (by decide) (by kernel_rfl) ⟨rfl, by decide, by decide⟩ ?F (fun _ _ _ _ z => z)
    intro w mg fa h Y G hmg0
    obtain ⟨K, KX, c⟩ := Y
    have hmg : mg ("law" : PySem.Str) = some (.ref fa) := by
      have e : (HandSHeadRun.topDef (OpenLaw.row PySem.Challenge.rw_tidecopy_k18_whole_the_log_tells_the_tab).prog 74).name = ("law" : PySem.Str) := by kernel_rfl
      rw [← e]
      exact hmg0
    obtain ⟨fd, hb, hF⟩ := K18.all_mk (P := (PySem.Challenge.rw_tidecopy_k18_whole_the_log_tells_the_tab).prog) (w := w) KX G hmg rfl (by kernel_rfl) c
    exact ⟨K, fd, K18.spLaw K, KX, hb, fun H a ns hl _ hS => ⟨a, ns, rfl, hS, hl, fun _ => rfl⟩, hF⟩
