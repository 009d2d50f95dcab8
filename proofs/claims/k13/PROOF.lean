import PyProof.Rows.All
import Wide.All
import OpenK.AllK
import Wide.FinOn
import PyProof.NeKinds
import HandS.ForMost
import HandS.IsInst
import HandS.Conv
import HandS.Codes
import HandS.Evl
import HandS.Strs
import HandS.SetFor
import HandS.SortInts
import HandS.Steps
import PyProof.Rows.IntBool
import PyProof.CallStr
import PyProof.FitsInt
import PyProof.EqKinds
import HandS.Style
import HandS.TupMul
import HandS.SetBool
import HandS.DictComp
import KE.KDictPairs
import HandS.WordsDict
import HandS.Iter
import HandS.SortKw
import KE.GoesEnumKw
import HandS.More
import HandS.ExcInit
import HandS.Nested
import KE.KExcSuper
import HandS.HotCalls
import HandS.ExcField
import HandS.WordsExc
import KE.KExcIs
import HandS.FStr
import HandS.Text
import HandS.ExcInitHot
import HandS.OwnEq
import HandS.OwnIter
import HandS.Dict
import HandS.Defaults
import HandS.CallSlots
import HandS.TupAny
import HandS.Ends
import HandS.Words
import HandS.Head0
import HandS.Head1
import HandS.Head2
import HandS.HeadEnd
import HandS.HeadHook1
import HandS.HeadHook2
import PySem.Challenge.RW_tidecopy_k13_groups_done
set_option Elab.async false
set_option linter.all false
set_option maxRecDepth 100000
namespace Tc
open PySem L2
/-- a def of the text under its name, with its promise -/
def Own (P : Program) (w : World) (K : PySem.W.Frag) (mg : Str → Option Value) (base : Heap) (x : Str) (ps : List Str) (k : Nat) (sp : Sp) : Prop :=
  ∃ (f : Addr) (fd : FuncData), FnOk P w K mg base CX0 k f fd ps sp ∧ mg x = some (.ref f) ∧ PySem.W.keepIn K (.ref f) = true ∧ Binds K fd ps []
theorem pe_own {X : Cx} {x : Str} {ps : List Str} {k j : Nat} {sp : Sp} {e : Expr} {es : List Expr} {t : TA} {p pos : Pos} (d : Own X.prog X.w X.K X.mg X.base x ps k sp) (hr : Room j X.A) (hj : k ≤ j) (hg : Gl X x) (ha : PA X (e :: es) t)
    (he : starEach (e :: es) X.env = (false, eval e X.env) :: starEach es X.env := by rfl) (hdb : (x == ("__debug__" : Str)) = false := by decide) (hpl : (backTo pos (starEach es X.env)).any (·.1) = false := by rfl) :
    PE X (.Call (.Name x p) (e :: es) [] pos) (tCall sp [] E0 t) := by
  obtain ⟨f, fd, F, hm, hk, hb⟩ := d
  exact pe_call F (hr.mono hj) hg hm hk hb .nil pass0 ha hdb he hpl

/-! ### one object hidden: the bag of draws, which changes -/
def hid (b : Addr) (H : Hp) : Hp := fun a => if a = b then none else H a
theorem hid_same (b : Addr) (H : Hp) : Same (hid b H) H := fun a o h => by
  unfold hid at h
  split at h
  · cases h
  · exact h
theorem hid_at {b a : Addr} {H : Hp} {o : HO} (h : H a = some o) (n : a ≠ b) : hid b H a = some o := by
  unfold hid
  rw [if_neg n]
  exact h
theorem hid_self (b : Addr) (H : Hp) : hid b H b = none := by
  unfold hid
  rw [if_pos rfl]
theorem hid_upd (b : Addr) (H : Hp) (o : HO) : hid b (upd H b o) = hid b H := by
  funext a
  unfold hid
  by_cases h : a = b
  · rw [if_pos h, if_pos h]
  · rw [if_neg h, if_neg h, upd_ne h]
theorem hid_new {b : Addr} {H : Hp} (h : H b = none) : hid b H = H := by
  funext a
  unfold hid
  by_cases e : a = b
  · rw [if_pos e, e, h]
  · rw [if_neg e]
/-- the bag at b, and all else as it was or more -/
def Bag (H : Hp) (b : Addr) : Prop := ∃ x y : Int, H b = some (.lst [.int x, .int y]) ∧ 0 ≤ x ∧ 0 ≤ y ∧ y < 2147483648
structure Fr (b : Addr) (H H' : Hp) : Prop where
  bag : Bag H' b
  sm : Same (hid b H) (hid b H')
theorem Fr.refl {b : Addr} {H : Hp} (h : Bag H b) : Fr b H H := ⟨h, Same.refl _⟩
theorem Fr.trans {b : Addr} {H H1 H2 : Hp} (x : Fr b H H1) (y : Fr b H1 H2) : Fr b H H2 := ⟨y.bag, x.sm.trans y.sm⟩
theorem Bag.ne {b p : Addr} {H : Hp} (h : Bag H b) (n : H p = none) : p ≠ b := fun e => by
  obtain ⟨x, y, h, _⟩ := h
  rw [e, h] at n
  cases n
theorem Fr.new {b p : Addr} {H : Hp} {o : HO} (h : Bag H b) (n : H p = none) : Fr b H (upd H p o) := by
  have hp := h.ne n
  refine ⟨?_, fun a u e => ?_⟩
  · obtain ⟨x, y, h, r⟩ := h
    exact ⟨x, y, by rw [upd_ne hp.symm]; exact h, r⟩
  · have e1 := hid_same b H a u e
    have e2 : a ≠ b := fun z => by
      rw [z, hid_self] at e
      cases e
    exact hid_at (by rw [upd_ne (ne_of_none e1 n)]; exact e1) e2
/-- an object made on the way may change -/
theorem Fr.mut {b p : Addr} {H H' : Hp} {o : HO} (x : Fr b H H') (n : H p = none) (hb : p ≠ b) : Fr b H (upd H' p o) := by
  refine ⟨?_, fun a u e => ?_⟩
  · obtain ⟨x1, y, h, r⟩ := x.bag
    exact ⟨x1, y, by rw [upd_ne hb.symm]; exact h, r⟩
  · have e1 := hid_same b H a u e
    have e3 := x.sm a u e
    have e4 := hid_same b H' a u e3
    have e2 : a ≠ b := fun z => by
      rw [z, hid_self] at e
      cases e
    exact hid_at (by rw [upd_ne (ne_of_none e1 n)]; exact e4) e2
theorem Fr.at {b a : Addr} {H H' : Hp} {o : HO} (x : Fr b H H') (h : H a = some o) (n : a ≠ b) : H' a = some o := hid_same b H' a o (x.sm a o (hid_at h n))
theorem Fr.free {b p : Addr} {H H' : Hp} (x : Fr b H H') (hb : Bag H b) (h : H' p = none) : H p = none := by
  have hp : p ≠ b := x.bag.ne h
  cases e : H p with
  | none => rfl
  | some o =>
    rw [x.at e hp] at h
    cases h

/-! ### data -/
mutual
theorem dp_same {K : PySem.W.Frag} {H H' : Hp} (e : Same H H') : ∀ (d : PyData) (v : V), Dp K H v d → Dp K H' v d
  | _, _, .non => .non
  | _, _, .bl b => .bl b
  | _, _, .int i => .int i
  | _, _, .str x => .str x
  | _, _, .lst h r => .lst (Evl.ex_l e h) (dps_same e _ _ r)
  | _, _, .tup h r => .tup (Evl.ex_t e h) (dps_same e _ _ r)
theorem dps_same {K : PySem.W.Frag} {H H' : Hp} (e : Same H H') : ∀ (ds : List PyData) (vs : List V), DpAll K H vs ds → DpAll K H' vs ds
  | _, _, .nil => .nil
  | _, _, .cons h r => .cons (dp_same e _ _ h) (dps_same e _ _ r)
end
theorem dps_len {K : PySem.W.Frag} {H : Hp} : ∀ {vs : List V} {ds : List PyData}, DpAll K H vs ds → vs.length = ds.length
  | _, _, .nil => rfl
  | _, _, .cons _ r => congrArg (· + 1) (dps_len r)
theorem dps_at {K : PySem.W.Frag} {H : Hp} : ∀ {vs : List V} {ds : List PyData} {i : Nat} {v : V}, DpAll K H vs ds → vs[i]? = some v → ∃ d, ds[i]? = some d ∧ Dp K H v d
  | _, _, 0, _, .cons h r, e => ⟨_, rfl, by cases e; exact h⟩
  | _, _, i + 1, _, .cons h r, e => dps_at (i := i) r e
theorem dps_at' {K : PySem.W.Frag} {H : Hp} : ∀ {vs : List V} {ds : List PyData} {i : Nat} {d : PyData}, DpAll K H vs ds → ds[i]? = some d → ∃ v, vs[i]? = some v ∧ Dp K H v d
  | _, _, 0, _, .cons h r, e => ⟨_, rfl, by cases e; exact h⟩
  | _, _, i + 1, _, .cons h r, e => dps_at' (i := i) r e
theorem dps_app {K : PySem.W.Frag} {H : Hp} : ∀ {vs ws : List V} {ds es : List PyData}, DpAll K H vs ds → DpAll K H ws es → DpAll K H (vs ++ ws) (ds ++ es)
  | _, _, _, _, .nil, q => q
  | _, _, _, _, .cons h r, q => .cons h (dps_app r q)
theorem dps_take {K : PySem.W.Frag} {H : Hp} : ∀ {vs : List V} {ds : List PyData} (n : Nat), DpAll K H vs ds → DpAll K H (vs.take n) (ds.take n)
  | _, _, 0, _ => .nil
  | _, _, n + 1, .nil => .nil
  | _, _, n + 1, .cons h r => .cons h (dps_take n r)
theorem dps_drop {K : PySem.W.Frag} {H : Hp} : ∀ {vs : List V} {ds : List PyData} (n : Nat), DpAll K H vs ds → DpAll K H (vs.drop n) (ds.drop n)
  | _, _, 0, r => r
  | _, _, n + 1, .nil => .nil
  | _, _, n + 1, .cons h r => dps_drop n r
theorem dps_set {K : PySem.W.Frag} {H : Hp} : ∀ {vs : List V} {ds : List PyData} {v : V} {d : PyData} (n : Nat), DpAll K H vs ds → Dp K H v d → DpAll K H (vs.set n v) (ds.set n d)
  | _, _, _, _, _, .nil, _ => .nil
  | _, _, _, _, 0, .cons h r, q => .cons q r
  | _, _, _, _, n + 1, .cons h r, q => .cons h (dps_set n r q)
theorem dps_mem {K : PySem.W.Frag} {H : Hp} : ∀ {vs : List V} {ds : List PyData} {v : V}, DpAll K H vs ds → v ∈ vs → ∃ d ∈ ds, Dp K H v d
  | _, _, _, .cons h r, m => by
    rcases List.mem_cons.mp m with e | m
    · exact ⟨_, List.mem_cons_self, e ▸ h⟩
    · obtain ⟨d, a, b⟩ := dps_mem r m
      exact ⟨d, List.mem_cons_of_mem _ a, b⟩
/-! ### kinds -/
def tyN : PyData → String
  | .none => "NoneType"
  | .bool _ => "bool"
  | .int _ => "int"
  | .str _ => "str"
  | .list _ => "list"
  | .tuple _ => "tuple"
  | .dict _ => "dict"
theorem ty_tup {K : PySem.W.Frag} {H : Hp} {a : Addr} {xs : List V} (h : SqT K H a xs) : TyX K H (.ref a) (.type "tuple") := by
  rcases h with (h | ⟨o, h⟩) | ⟨o, its, n, hk, hc, _⟩
  · exact .base (.tup h)
  · exact .fTuple h
  · exact .kTuple hk hc
theorem ty_lst {K : PySem.W.Frag} {H : Hp} {a : Addr} {xs : List V} (h : SqL K H a xs) : TyX K H (.ref a) (.type "list") := by
  rcases h with (h | ⟨o, h⟩) | ⟨o, its, n, hk, hc, _⟩
  · exact .base (.lst h)
  · exact .base (.frz h)
  · exact .kList hk hc
theorem ty_dp {K : PySem.W.Frag} {H : Hp} {v : V} {d : PyData} (h : Dp K H v d) : TyX K H v (.type (tyN d)) := by
  cases h with
  | non => exact .base .non
  | bl b => exact .base (.bl b)
  | int i => exact .base (.int i)
  | str z => exact .base (.str z)
  | lst h r => exact ty_lst h
  | tup h r => exact ty_tup h
theorem dp_nodict {K : PySem.W.Frag} {H : Hp} {v : V} {d : PyData} (h : Dp K H v d) : ∀ kv, d ≠ .dict kv := by
  cases h <;> intro kv z <;> cases z
/-- isinstance of data -/
theorem isi {K : PySem.W.Frag} {H : Hp} {v : V} {d : PyData} {c : String} {b : Bool} {Q : VK} (h : Dp K H v d) (k : kitB (tyN d) c = some b) (q : Q (.bl b) H) : rIsi K [v, .ty c] H Q :=
  ⟨v, .ty c, .type (tyN d), .type c, b, rfl, .ty c, ty_dp h, kit_ty k, q⟩
def isInt : PyData → Bool
  | .int _ => true | .bool _ => true | _ => false
def isBool : PyData → Bool
  | .bool _ => true | _ => false
def isTup : PyData → Bool
  | .tuple _ => true | _ => false
def isLst : PyData → Bool
  | .list _ => true | _ => false
def isStr : PyData → Bool
  | .str _ => true | _ => false
theorem kit_int {d : PyData} (n : ∀ kv, d ≠ .dict kv) : kitB (tyN d) "int" = some (isInt d) := by
  cases d with
  | none => exact (by decide +kernel : kitB "NoneType" "int" = some false)
  | bool _ => exact (by decide +kernel : kitB "bool" "int" = some true)
  | int _ => exact (by decide +kernel : kitB "int" "int" = some true)
  | str _ => exact (by decide +kernel : kitB "str" "int" = some false)
  | list _ => exact (by decide +kernel : kitB "list" "int" = some false)
  | tuple _ => exact (by decide +kernel : kitB "tuple" "int" = some false)
  | dict kv => exact absurd rfl (n kv)
theorem kit_bool {d : PyData} (n : ∀ kv, d ≠ .dict kv) : kitB (tyN d) "bool" = some (isBool d) := by
  cases d with
  | none => exact (by decide +kernel : kitB "NoneType" "bool" = some false)
  | bool _ => exact (by decide +kernel : kitB "bool" "bool" = some true)
  | int _ => exact (by decide +kernel : kitB "int" "bool" = some false)
  | str _ => exact (by decide +kernel : kitB "str" "bool" = some false)
  | list _ => exact (by decide +kernel : kitB "list" "bool" = some false)
  | tuple _ => exact (by decide +kernel : kitB "tuple" "bool" = some false)
  | dict kv => exact absurd rfl (n kv)
theorem kit_tuple {d : PyData} (n : ∀ kv, d ≠ .dict kv) : kitB (tyN d) "tuple" = some (isTup d) := by
  cases d with
  | none => exact (by decide +kernel : kitB "NoneType" "tuple" = some false)
  | bool _ => exact (by decide +kernel : kitB "bool" "tuple" = some false)
  | int _ => exact (by decide +kernel : kitB "int" "tuple" = some false)
  | str _ => exact (by decide +kernel : kitB "str" "tuple" = some false)
  | list _ => exact (by decide +kernel : kitB "list" "tuple" = some false)
  | tuple _ => exact (by decide +kernel : kitB "tuple" "tuple" = some true)
  | dict kv => exact absurd rfl (n kv)
theorem kit_list {d : PyData} (n : ∀ kv, d ≠ .dict kv) : kitB (tyN d) "list" = some (isLst d) := by
  cases d with
  | none => exact (by decide +kernel : kitB "NoneType" "list" = some false)
  | bool _ => exact (by decide +kernel : kitB "bool" "list" = some false)
  | int _ => exact (by decide +kernel : kitB "int" "list" = some false)
  | str _ => exact (by decide +kernel : kitB "str" "list" = some false)
  | list _ => exact (by decide +kernel : kitB "list" "list" = some true)
  | tuple _ => exact (by decide +kernel : kitB "tuple" "list" = some false)
  | dict kv => exact absurd rfl (n kv)
theorem kit_str {d : PyData} (n : ∀ kv, d ≠ .dict kv) : kitB (tyN d) "str" = some (isStr d) := by
  cases d with
  | none => exact (by decide +kernel : kitB "NoneType" "str" = some false)
  | bool _ => exact (by decide +kernel : kitB "bool" "str" = some false)
  | int _ => exact (by decide +kernel : kitB "int" "str" = some false)
  | str _ => exact (by decide +kernel : kitB "str" "str" = some true)
  | list _ => exact (by decide +kernel : kitB "list" "str" = some false)
  | tuple _ => exact (by decide +kernel : kitB "tuple" "str" = some false)
  | dict kv => exact absurd rfl (n kv)
/-! ### a list beside the empty one -/
def rNeE (K : PySem.W.Frag) : R2 := fun x y H Q => ∃ (a b : Addr) (xs : List V), x = .ref a ∧ y = .ref b ∧ SqL K H a xs ∧ SqL K H b [] ∧ Q (.bl (!xs.isEmpty)) H
theorem op_neE {X : Cx} (hu : X.A.units + 64 < cLine) : OpR X (compareOp .NotEq) (rNeE X.K) := by
  intro pins s σ H x y v u Q I rx ry h
  obtain ⟨a, b, xs, rfl, rfl, ha, hb, q⟩ := h
  cases xs with
  | nil => exact op_neD hu pins s σ H _ _ v u Q I rx ry ⟨.list [], .list [], .lst ha .nil, .lst hb .nil, rfl, rfl, q⟩
  | cons z zs =>
    cases (show v = Value.ref a from rx)
    cases (show u = Value.ref b from ry)
    obtain ⟨i1, r1, l1, _⟩ := I.list ha
    obtain ⟨i2, r2, l2, _⟩ := I.list hb
    have h1 : (i1.toArray.size != i2.toArray.size) = true := by
      have e1 := r1.length
      have e2 := r2.length
      simp only [List.size_toArray]
      rw [← e1, ← e2]
      rfl
    exact SeqAt.RcNeAt.lists_lengths l1.isList l2.isList h1 (by omega) _ _ _ _ ⟨.bl true, H, I, rfl, q⟩
/-! ### evaluation of tests over data -/
section
open Evl
variable {K : PySem.W.Frag} {σ : L2.St} {H : Hp} {ta tb tc : TE} {x y z v : V} {d : PyData}
theorem rc_isi {c : String} {b : Bool} (h : Dp K H v d) (k : kitB (tyN d) c = some b) : RC (rIsi K) [v, .ty c] H (.bl b) := fun H1 e _ q => isi (dp_same e _ _ h) k (q H1 (Ex.refl H1))
theorem ev_isi {c : String} {b : Bool} (ha : Ev ta σ H v) (h : Dp K H v d) (k : kitB (tyN d) c = some b) : Ev (tCB (rIsi K) (tCons ta (tCons (tC (.ty c)) tNil))) σ H (.bl b) := ev_cb (ea_cons ha (ea_cons ev_c ea_nil)) (rc_isi h k)
theorem ev_int (ha : Ev ta σ H v) (h : Dp K H v d) : Ev (tCB (rIsi K) (tCons ta (tCons (tC (.ty "int")) tNil))) σ H (.bl (isInt d)) := ev_isi ha h (kit_int (dp_nodict h))
theorem ev_bool (ha : Ev ta σ H v) (h : Dp K H v d) : Ev (tCB (rIsi K) (tCons ta (tCons (tC (.ty "bool")) tNil))) σ H (.bl (isBool d)) := ev_isi ha h (kit_bool (dp_nodict h))
theorem ev_tuple (ha : Ev ta σ H v) (h : Dp K H v d) : Ev (tCB (rIsi K) (tCons ta (tCons (tC (.ty "tuple")) tNil))) σ H (.bl (isTup d)) := ev_isi ha h (kit_tuple (dp_nodict h))
theorem ev_str (ha : Ev ta σ H v) (h : Dp K H v d) : Ev (tCB (rIsi K) (tCons ta (tCons (tC (.ty "str")) tNil))) σ H (.bl (isStr d)) := ev_isi ha h (kit_str (dp_nodict h))
theorem ev_chain {p p' : Int → Int → Bool} {i j k : Int} (ha : Ev ta σ H (.int i)) (hb : Ev tb σ H (.int j)) (hc : Ev tc σ H (.int k)) :
    Ev (tChain (rI0 fun i j => .bl (p i j)) (rI0 fun i j => .bl (p' i j)) ta tb tc) σ H (.bl (p i j && p' j k)) := fun H1 e Q q =>
  ha H1 e _ fun H2 e2 => hb H2 (e.trans e2) _ fun H3 e3 => ⟨i, j, rfl, rfl, p i j, rfl, by
    cases h : p i j with
    | true => exact hc H3 ((e.trans e2).trans e3) _ fun H4 e4 => ⟨j, k, rfl, rfl, by
        rw [h] at q
        exact q H4 ((e2.trans e3).trans e4)⟩
    | false =>
      rw [h] at q
      exact q H3 (e2.trans e3)⟩
/-- a def that answers a truth of data -/
def spTold (K : PySem.W.Frag) (f : PyData → Bool) : Sp := fun vs H Q _ => ∃ (v : V) (d : PyData), vs = [v] ∧ Dp K H v d ∧ ∀ H', Ex H H' → Q (.bl (f d)) H'
theorem spv_told {f : PyData → Bool} (h : Dp K H v d) : SpV (spTold K f) [v] H (.bl (f d)) := fun H1 e Q q E => ⟨v, d, rfl, dp_same e _ _ h, fun H' e' => q H' e'⟩
theorem ev_told {f : PyData → Bool} {E : XK} (ha : Ev ta σ H v) (h : Dp K H v d) : Ev (tCall (spTold K f) [] E (tCons ta tNil)) σ H (.bl (f d)) := ev_call (ea_cons ha ea_nil) (spv_told h)
theorem ev_ixT {p : Addr} {xs : List V} {j : Nat} (ha : Ev ta σ H (.ref p)) (h : SqT K H p xs) (hj : xs[j]? = some v) : Ev (tOp (rIxT K) ta (tC (.int (j : Int)))) σ H v := ev_op ha ev_c (rv_ixT h (atI_nat hj))
theorem ev_lenT {p : Addr} {xs : List V} (ha : Ev ta σ H (.ref p)) (h : SqT K H p xs) : Ev (tCB (rLenS K) (tCons ta tNil)) σ H (.int (xs.length : Int)) := fun H1 e Q q =>
  ha H1 e _ fun H2 e2 => ⟨p, xs, rfl, Or.inr (ex_t (e.trans e2) h), q H2 e2⟩
theorem ev_ix0 {p : Addr} {xs : List V} (ha : Ev ta σ H (.ref p)) (h : SqT K H p (v :: xs)) : Ev (tOp (rIxT K) ta (tC (.int 0))) σ H v := ev_ixT (j := 0) ha h rfl
theorem ev_ix1 {p : Addr} {xs : List V} (ha : Ev ta σ H (.ref p)) (h : SqT K H p (x :: v :: xs)) : Ev (tOp (rIxT K) ta (tC (.int 1))) σ H v := ev_ixT (j := 1) ha h rfl
theorem two_of {α : Type} {l : List α} (h : l.length = 2) : ∃ x y, l = [x, y] := match l, h with | [x, y], _ => ⟨x, y, rfl⟩
theorem ev_glob {i : Int} (q : True) : Ev (tC (.int i)) σ H (.int i) := ev_c
end
end Tc
/-! sets of ints out of a list, and their sorted list, of any length -/
namespace Tc
open PySem L2 PyProof.Rows
section
variable {P : Program} {w : World} {A : Around} {E : Value → Shared → Prop} {s : Shared}
/-- the empty set as the model lays it -/
abbrev noneSet (w : World) : Obj := { cls := .type "set", dict := none, data := .set #[] 0 (.fresh 0 0 (!w.params.followText "set-order")) }
abbrev withSet (w : World) (s : Shared) : Shared := { s with heap := s.heap.push (noneSet w) }
/-- what is known behind set(..) of ints -/
def Made (w : World) (s : Shared) (ns : List Int) (s₂ : Shared) : Prop := ∃ (h' : Heap) (tk c : Nat), s₂ = { s with heap := h', toks := tk } ∧ SetR w h' s.heap.objs.size (fun j => decide (j ∈ ns)) c ∧ c ≤ ns.length ∧ ∀ b o, s.heap.get? b = some o → h'.get? b = some o
set_option maxHeartbeats 8000000 in
theorem call_set_ints {l : Addr} {items : Array Value} {ns : List Int} {Q : Value → Shared → Prop} (hh : A.handled = none) (hl : s.heap.IsList l items) (hit : IntsAre items.toList ns) (hb : ns.length + 1 < scanBound)
    (h : ∀ s₂, Made w s ns s₂ → Q (.ref s.heap.objs.size) s₂) : wpAny (model P w) A (call (.type "set") [.ref l]) Q E s := by
  have hisz : items.size = ns.length := by rw [← Array.length_toList]; exact IntsAre.length hit
  obtain ⟨⟨ocls, odict, odata, oslots⟩, hol, hcl, nl, hdl⟩ := hl
  simp only at hcl hdl
  subst hcl; subst hdl
  have lS : l < s.heap.objs.size := Heap.lt_size hol
  have hS : (withSet w s).heap.get? s.heap.objs.size = some (noneSet w) := Heap.get?_push_size _ rfl
  have hT : (withSet w s).TypeIs (.ref s.heap.objs.size) "set" := ⟨_, hS, rfl⟩
  have hol' := Heap.get?_push_of_some (noneSet w) hol
  have hl1 : (withSet w s).heap.IsList l items := ⟨_, hol', rfl, nl, rfl⟩
  obtain ⟨c0, tl0, p1⟩ := F.called_set.mro
  have p2 := F.called_set.made
  have p3 := F.called_set.sub
  have p4 := F.called_set.notType
  have p5 := F.called_set.canCreate
  have p6 := F.typeCall_set_1 (.ref l)
  have p7 := F.called_set.init.lookup
  have p8 := F.called_set.init.bind (.ref s.heap.objs.size)
  refine wpAny_call (codeAny_of_tree (show wpAny _ _ (callAny (.type "set") _) _ _ _ from wpAny_pure ⟨Code.quiet_builtin _ (by decide +kernel), codeAny_builtin F.entry_type_call ?_⟩))
  rw [Around.under_plain (weight_type_call_type "set" [.ref l] []) rfl]
  repeat (any_goals (first | assumption | wp_step))
  refine codeAny_mono (code_set_led1 (.ref l) (E := E) (Q₁ := fun obj s₁ => obj = .ref s.heap.objs.size ∧ s₁ = withSet w s) ⟨rfl, rfl⟩) fun r s₁ hr => ?_
  rcases r with e | fl
  · exact hr
  cases fl with
  | ret obj =>
    obtain ⟨rfl, rfl⟩ := hr
    repeat (any_goals (first | assumption | wp_step))
    refine codeAny_mono (codeAny_call_builtin (R := wants (fun r s₂ => r = .none ∧ Made w s ns s₂) E) F.called_set.init.plain F.entry_set_init (check_set_init_1 hT ?_)) fun r₂ s₂ hr₂ => ?_
    · have q1 := F.sub_list_set
      have q2 := F.sub_list_frozenset
      have q3 : (Value.type "list" == Value.type "dict") = false := by decide
      unfold Builtin.«set.__init__» noKeywords Builtin.Frozenset.updateFrom
      generalize hPI : pyIter = PI
      wp_walk
      subst hPI
      refine wpAny_pyIter_list hl1 (wpAny_bind (wpAny_runValue ?_))
      have z1 : (withSet w s).heap.objs.size = s.heap.objs.size + 1 := Heap.size_push ..
      have n1 : l ≠ (withSet w s).heap.objs.size := by
        rw [z1]
        exact Nat.ne_of_lt (Nat.lt_succ_of_lt lS)
      have n2 : s.heap.objs.size ∉ [(withSet w s).heap.objs.size, l] := by
        rw [z1]
        intro m
        simp only [List.mem_cons, List.not_mem_nil, or_false] at m
        rcases m with m | m
        · exact absurd m (Nat.ne_of_lt (Nat.lt_succ_self _))
        · exact absurd m (Nat.ne_of_gt lS)
      have each : ∀ (i : Nat) (v : Value), items[i]? = some v → ∃ (k : Int) (tok : Tok), ns[i]? = some k ∧ v = .int k tok := fun i v at_ => by
        have lt : i < ns.length := hisz ▸ (Array.getElem?_eq_some_iff.mp at_).1
        obtain ⟨tok, rfl⟩ := IntsAre.int_at hit i v (Array.getElem?_toList ▸ at_)
        exact ⟨ns[i], tok, List.getElem?_eq_getElem lt, by simp [lt]⟩
      refine set_update_ints ((Walks.list (by simp [hh]) _ l n1 items).toS) s.heap.objs.size n2 ns hisz hb each (items.size - 0) 0 _ (by omega) (Nat.zero_le _)
        ⟨⟨_, Heap.get?_push_size _ rfl, rfl, rfl⟩, hl1.push _⟩ ⟨0, Nat.le_refl 0, setR_new_at (Heap.get?_push_of_some _ hS)⟩ fun s' c' hm hc' hS' => ?_
      obtain ⟨h', gen', drw', tk', os1⟩ := s'
      cases (show gen' = s.gens from hm.gens)
      cases (show drw' = s.drawn from hm.drawn)
      cases (show os1 = s.os from hm.os)
      refine wpAny_pure (show wpAny _ _ (ret Value.none) _ _ _ from wpAny_pure ⟨rfl, h', tk', c', rfl, hS', by omega, fun b o e => ?_⟩)
      have b0 : b < s.heap.objs.size := Heap.lt_size e
      refine hm.heap b o (fun m => ?_) (Heap.get?_push_of_some _ (Heap.get?_push_of_some _ e))
      simp only [List.mem_cons, List.not_mem_nil, or_false] at m
      rcases m with m | m
      · exact absurd m (Nat.ne_of_lt b0)
      · exact absurd (m.trans z1) (Nat.ne_of_lt (Nat.lt_succ_of_lt b0))
    · rcases r₂ with e | f2
      · exact hr₂
      cases f2 with
      | ret r =>
        obtain ⟨rfl, m⟩ := hr₂
        repeat (any_goals (first | assumption | wp_step))
        exact h _ m
      | _ => exact hr₂.elim
  | _ => exact hr.elim
end
/-! ### the rules -/
section
variable {X : Cx}
/-- set(xs), xs a list of ints -/
def rSetL (K : PySem.W.Frag) (w : World) : List V → Hp → VK → Prop := fun xs H Q => ∃ (l : Addr) (ns : List Int), xs = [V.ref l] ∧ SqL K H l (ns.map V.int) ∧ ns.length ≤ 4000 ∧
  ∀ (p : Addr) (c : Nat), H p = none → c ≤ ns.length → Q (.ref p) (upd H p (SetO w p (fun j => decide (j ∈ ns)) c))
theorem cr_setL (hc : X.calm = true) : CallR X (.type "set") (rSetL X.K X.w) := by
  intro pins s σ H vs us Q I r ⟨l, ns, e0, hs, hz, q⟩
  subst e0
  rw [Vals.ref1 r]
  have ⟨its, rv, hl, _⟩ := I.list hs
  refine call_set_ints (ns := ns) (I.ok.hd hc) hl.isList rv.ints (by unfold scanBound; omega) fun s₂ m => ?_
  obtain ⟨h', tk, c, rfl, R, hc', k⟩ := m
  exact ⟨.ref _, upd H s.heap.objs.size (SetO X.w s.heap.objs.size (fun j => decide (j ∈ ns)) c), I.laid (t' := tk) k (Nat.le_refl _) (setO_new R), rfl, q _ c (I.hok.fresh (Nat.le_refl _)) hc'⟩
end
end Tc
/-! the sorted list of a set of ints, of any length -/
namespace Tc
open PySem L2 PyProof.Rows
section
variable {P : Program} {w : World} {A : Around} {E : Value → Shared → Prop} {s : Shared} {a : Addr}
set_option maxHeartbeats 9000000 in
/-- sorted(a set of ints): the road of the library's rule for fewer than 64 of them, with its sort of ints of any number -/
theorem sorted_any {S : Int → Bool} {n : Nat} {Q : Value → Shared → Prop} (R : SetR w s.heap a S n) (free : A.handled = none)
    (fin : ∀ s' p (out : List Value) (c : Nat) (ns : List Int), (∀ b o, s.heap.get? b = some o → s'.heap.get? b = some o) → s'.gens = s.gens → s'.os = s.os → s.heap.objs.size ≤ p →
      s'.heap.get? p = some (seqObj "list" out.toArray c) → IntsAre out ns → ns.Pairwise (· < ·) → (∀ k, k ∈ ns ↔ S k = true) → ns.length = n → ns.length ≤ sizeLine → Q (.ref p) s') : wpAny (model P w) A (call (.builtin "sorted") [.ref a]) Q E s := by
  obtain ⟨ob, ents, _, _, at1, exact1, dat, isI, once, mem, room, fits, count, ring, laid⟩ := R
  have many : ∀ {l : List Value}, l.Perm (ents.toList.map (·.2)) → l.length = n := fun pm => (pm.length_eq.trans (by simp)).trans count
  have size : n ≤ sizeLine := count ▸ fits_of_scanBound room
  refine Calls.call_function_entry kind_sorted plain_sorted entry_sorted (args_sorted1 _) (show wpAny _ _ (Builtin.«sorted» _) _ _ _ from ?_)
  refine wpAny_bind (m := checkCount "sorted" 1 1 _) (wpAny_pure (wpAny_bind (collect_set (A := A.in1) free ⟨ob, at1, exact1.1, dat⟩ fits room ring laid fun t vs keep old gens os pm => ?_)))
  /- the items, as ints -/
  have are : IntsAre vs (vs.map Builtin.Re.reRawOf) := ints_of vs fun v m => by
    have ⟨x, mx, ex⟩ := List.mem_map.mp (pm.mem_iff.mp m)
    have ⟨i, tok, hx, _⟩ := isI x mx
    exact ⟨i, tok, ex ▸ hx⟩
  have these : (vs.map Builtin.Re.reRawOf).Perm (ents.toList.map keyOf) := (pm.map Builtin.Re.reRawOf).trans (by rw [List.map_map]; exact .refl _)
  refine wpAny_bind (wpAny_newList ?_ ((many pm).symm ▸ size))
  generalize hL : t.heap.push (seqObj "list" vs.toArray 0) = L
  have new : L.get? t.heap.objs.size = some (seqObj "list" vs.toArray 0) := hL ▸ Heap.get?_push_size _ rfl
  refine wpAny_bind (wpAny_holding (wpAny_call_entry slot_list_sort ⟨_, new, rfl⟩ entry_list_sort (SrtO.list_sort_ord SrtO.swo_int new ((many pm).symm ▸ size) (fun lt => SrtO.ints_sortable are lt) fun out o1 o2 => ⟨_, rfl, ?_⟩) (args_list_sort _)))
  obtain ⟨r1, r2, r3⟩ := SrtO.ints_out are o1 o2
  have ⟨c, hc⟩ := sortedHeap_at (vs := vs) (out := out.toArray) new
  have all := r2.trans these
  have len := all.length_eq.trans ((List.length_map _).trans (Array.length_toList.trans count))
  refine wpAny_pure ⟨_, rfl, fin _ t.heap.objs.size out c _ (fun b u e => ?_) gens os old hc r1 (L2.lt_of_le_nodup _ r3 (all.nodup_iff.mpr once)) (fun k => all.mem_iff.trans (mem k).symm) len (len.symm ▸ size)⟩
  have lt := Heap.lt_size (keep b u e)
  show (sortedHeap L t.heap.objs.size vs out.toArray).get? b = some u
  rw [sortedHeap_old (Nat.ne_of_lt lt) (hL ▸ size_push' t.heap _ ▸ Nat.lt_succ_of_lt lt), ← hL]
  exact Heap.get?_push_of_some _ (keep b u e)
end
section
variable {X : Cx}
/-- sorted(s), s a set of ints: a new list, rising, of just its members -/
def rSortedSetA (w : World) : List V → Hp → VK → Prop := fun vs H Q => ∃ (a : Addr) (S : Int → Bool) (n : Nat), vs = [V.ref a] ∧ H a = some (SetO w a S n) ∧ ∀ (ms : List Int) (p : Addr), ms.Pairwise (· < ·) → (∀ k : Int, k ∈ ms ↔ S k = true) → ms.length = n → H p = none → Q (.ref p) (upd H p (.lst (ms.map V.int)))
theorem cr_sortedSetA (hc : X.calm = true) : CallR X (.builtin "sorted") (rSortedSetA X.w) := by
  intro pins s0 σ H vs us Q I r hyp
  obtain ⟨a, S, n, rfl, ha, q⟩ := hyp
  rw [Vals.ref1 r]
  refine sorted_any (setO_get I ha) (I.ok.hd hc) fun t p out c ms keep gens os far at2 are rise mem cnt size => ?_
  have none0 := I.hok.fresh far
  have ok : ObjOk X.prog X.w (upd H p (.lst (ms.map V.int))) t.heap p (.lst (ms.map V.int)) := ⟨(List.length_map (f := V.int)).symm ▸ size, out, c, vals_of_ints are, at2⟩
  have inv := I.call (g' := t.gens) (d' := t.drawn) (t' := t.toks) (ch := []) (Un.laid keep far none0) (I.hok.laid keep far ok) (gens ▸ I.bare) (fun _ z => nomatch z)
  have same : t = { s0 with heap := t.heap, gens := t.gens, drawn := t.drawn, toks := t.toks } := by
    obtain ⟨t1, t2, t3, t4, t5⟩ := t
    cases os
    rfl
  exact same ▸ ⟨.ref p, _, inv, rfl, q ms p rise mem cnt none0⟩
end
end Tc
namespace Tc
open PySem L2 Evl
section
variable {K : PySem.W.Frag} {σ : L2.St} {H : Hp} {ta tb tc te : TE} {x y z v : V} {d : PyData}
theorem s_next {D : Ends} {σ : L2.St} {H : Hp} (h : D.nx σ H) : tNext D σ H := h
theorem s_seq {D : Ends} {σ : L2.St} {H : Hp} {t u : TS} (h : t { D with nx := u D } σ H) : tSeq t u D σ H := h
theorem ev_l0 {p : Addr} {xs : List V} (ha : Ev ta σ H (.ref p)) (h : SqL K H p (v :: xs)) : Ev (tOp (rIxL K) ta (tC (.int 0))) σ H v := ev_op ha ev_c (rv_ixL h (atI_nat (j := 0) rfl))
theorem ev_l1 {p : Addr} {xs : List V} (ha : Ev ta σ H (.ref p)) (h : SqL K H p (x :: v :: xs)) : Ev (tOp (rIxL K) ta (tC (.int 1))) σ H v := ev_op ha ev_c (rv_ixL h (atI_nat (j := 1) rfl))
theorem ex_hid {b : Addr} {H H1 : Hp} (e : Ex H H1) : Same (hid b H) (hid b H1) := fun a u h => by
  have n : a ≠ b := fun z => by
    rw [z, hid_self] at h
    cases h
  exact hid_at (e a u (hid_same b H a u h)) n
theorem Fr.ex {b : Addr} {H H1 : Hp} (h : Bag H b) (e : Ex H H1) : Fr b H H1 := by
  obtain ⟨x, y, hb, r⟩ := h
  exact ⟨⟨x, y, e b _ hb, r⟩, ex_hid e⟩
theorem Fr.put {b : Addr} {H H1 : Hp} {x y : Int} (e : Ex H H1) (hx : 0 ≤ x) (hy : 0 ≤ y) (hz : y < 2147483648) : Fr b H (upd H1 b (.lst [.int x, .int y])) := by
  refine ⟨⟨x, y, upd_same, hx, hy, hz⟩, ?_⟩
  rw [hid_upd]
  exact ex_hid e
theorem rv_mod {i j : Int} (h : 0 < j) : RV (rI (fun _ j => 0 < j) fun i j => .int (i % j)) (.int i) (.int j) H (.int (i % j)) := fun H1 _ _ q => ⟨i, j, rfl, rfl, h, q H1 (Ex.refl H1)⟩
theorem rv_fdiv {i j : Int} (h : 0 < j) (h2 : j < 1073741824) : RV (rI CDiv fun i j => .int (i / j)) (.int i) (.int j) H (.int (i / j)) := fun H1 _ _ q => ⟨i, j, rfl, rfl, ⟨h, h2⟩, q H1 (Ex.refl H1)⟩
theorem rv_mul {i j : Int} (h : CMul i j) : RV (rI CMul fun i j => .int (i * j)) (.int i) (.int j) H (.int (i * j)) := fun H1 _ _ q => ⟨i, j, rfl, rfl, h, q H1 (Ex.refl H1)⟩
theorem rv_pow {i j : Int} (h : CPow i j) : RV (rI CPow fun i j => .int (i ^ j.toNat)) (.int i) (.int j) H (.int (i ^ j.toNat)) := fun H1 _ _ q => ⟨i, j, rfl, rfl, h, q H1 (Ex.refl H1)⟩
theorem rv_add {i j : Int} : RV (rI0 fun i j => .int (i + j)) (.int i) (.int j) H (.int (i + j)) := rv_I0
theorem rv_sub {i j : Int} : RV (rI0 fun i j => .int (i - j)) (.int i) (.int j) H (.int (i - j)) := rv_I0
theorem ev_abs {i : Int} (ha : Ev ta σ H (.int i)) : Ev (tCB (fun xs H Q => ∃ i, xs = [.int i] ∧ Q (.int (if i < 0 then -i else i)) H) (tCons ta tNil)) σ H (.int (if i < 0 then -i else i)) :=
  ev_cb (ea_cons ha ea_nil) fun H1 _ _ q => ⟨i, rfl, q H1 (Ex.refl H1)⟩
theorem ev_lx {p : Addr} {xs : List V} {j : Nat} (ha : Ev ta σ H (.ref p)) (hb : Ev tb σ H (.int (j : Int))) (h : SqL K H p xs) (hj : xs[j]? = some v) : Ev (tOp (rIxL K) ta tb) σ H v := ev_op ha hb (rv_ixL h (atI_nat hj))
/-- a new bag -/
def spBag (K : PySem.W.Frag) : Sp := fun vs H Q _ => ∃ (a : Addr) (ns : List Int) (k : Nat), vs = [.ref a, .int (k : Int)] ∧ SqL K H a (ns.map V.int) ∧ k ≤ 1000 ∧ ∀ b H', H b = none → Ex H H' → Bag H' b → Q (.ref b) H'
/-- a draw below m -/
def spTake : Sp := fun vs H Q _ => ∃ (b : Addr) (m : Int), vs = [.ref b, .int m] ∧ Bag H b ∧ 0 < m ∧ m < 1073741824 ∧ ∀ r H', Fr b H H' → 0 ≤ r → r < m → Q (.int r) H'
end
end Tc
namespace Tc
open PySem L2 Evl
section
variable {K : PySem.W.Frag} {σ : L2.St} {H : Hp} {ta tb tc te : TE} {t : TT} {x y z v : V} {d : PyData}
/-- a list comprehension over a tuple, changing nothing -/
theorem el_lcT {a : Addr} {xs : List V} {tl : TE} {j : Nat} {vs : List Nat} (f : Nat → Bool) (u : Nat → V) (h : Ev tl σ H (.ref a)) (hx : SqT K H a xs) (hz : xs.length ≤ 40000) (hw : ∀ x, wipe ((wipe σ vs).set j (some x)) vs = wipe σ vs)
    (ht : ∀ (i : Nat) (x : V) H1, Ex H H1 → xs[i]? = some x → EvT t ((wipe σ vs).set j (some x)) H1 (f i)) (he : ∀ (i : Nat) (x : V) H1, Ex H H1 → xs[i]? = some x → f i = true → Ev te ((wipe σ vs).set j (some x)) H1 (u i)) :
    EvL (tLc (iTup K tl) (gName j) t te vs) σ H (given xs.length f u) := fun H0 e Q q => h H0 e _ fun H1 e1 => ⟨a, rfl, ⟨xs, ex_t (e.trans e1) hx⟩, fun Dl hD =>
  lc_tup (xs := xs) (Cw H1 f u Dl) ⟨hD, Ex.new hD, upd_same⟩ (fun i H' _ p => ex_t ((e.trans e1).trans p.2.1) hx) (fun i x H' hi p => ⟨hw x, cw_turn p (by have := (List.getElem?_eq_some_iff.mp hi).1; omega) (ht i x H1 (e.trans e1) hi) (fun hf => he i x H1 (e.trans e1) hi hf)⟩)
    (fun H' ⟨n0, x0, d0⟩ => q Dl H' (fresh_back e1 n0) (e1.trans x0) d0)⟩
theorem et_yes : EvT tYes σ H true := fun H1 _ _ q => q H1 (Ex.refl H1)
theorem given_all (n : Nat) (u : Nat → V) : given n (fun _ => true) u = (List.range n).map u := by
  unfold given
  rw [List.filter_eq_self.mpr fun _ _ => rfl]
theorem given_empty (n : Nat) (f : Nat → Bool) (u : Nat → V) : (given n f u).isEmpty = true ↔ ∀ i, i < n → f i = false := by
  unfold given
  rw [List.isEmpty_iff, List.map_eq_nil_iff, List.filter_eq_nil_iff]
  constructor
  · intro h i hi
    cases e : f i with
    | true => exact absurd e (h i (List.mem_range.mpr hi))
    | false => rfl
  · intro h i hi
    rw [h i (List.mem_range.mp hi)]
    exact Bool.false_ne_true
/-- two rising lists of the same members are one -/
theorem rising_one : ∀ (a b : List Int), a.Pairwise (· < ·) → b.Pairwise (· < ·) → (∀ k, k ∈ a ↔ k ∈ b) → a = b
  | [], [], _, _, _ => rfl
  | [], y :: b, _, _, h => absurd ((h y).mpr List.mem_cons_self) (by simp)
  | x :: a, [], _, _, h => absurd ((h x).mp List.mem_cons_self) (by simp)
  | x :: a, y :: b, ha, hb, h => by
    obtain ⟨a1, a2⟩ := List.pairwise_cons.mp ha
    obtain ⟨b1, b2⟩ := List.pairwise_cons.mp hb
    have e : x = y := by
      rcases List.mem_cons.mp ((h x).mp List.mem_cons_self) with e | m
      · exact e
      · rcases List.mem_cons.mp ((h y).mpr List.mem_cons_self) with e | m2
        · exact e.symm
        · have p1 := b1 x m
          have p2 := a1 y m2
          omega
    subst e
    refine congrArg (x :: ·) (rising_one a b a2 b2 fun k => ⟨fun m => ?_, fun m => ?_⟩)
    · rcases List.mem_cons.mp ((h k).mp (List.mem_cons_of_mem _ m)) with e | m2
      · have := a1 k m
        omega
      · exact m2
    · rcases List.mem_cons.mp ((h k).mpr (List.mem_cons_of_mem _ m)) with e | m2
      · have := b1 k m
        omega
      · exact m2
/-- sorted(set(xs)) of ints -/
theorem el_sortset {w : World} {ns ms : List Int} (ha : EvL ta σ H (ns.map V.int)) (hl : ns.length ≤ 4000) (hm : ∀ l : List Int, l.Pairwise (· < ·) → (∀ k, k ∈ l ↔ k ∈ ns) → l = ms) :
    EvL (tCB (rSortedSetA w) (tCons (tCB (rSetL K w) (tCons ta tNil)) tNil)) σ H (ms.map V.int) := fun H1 e Q q =>
  ha H1 e _ fun p H2 hp e2 h2 => ⟨p, ns, rfl, sq_of h2, hl, fun s c hs hc => ⟨s, _, c, rfl, upd_same, fun l r hp1 hm1 hn hr => by
    have e3 := hm l hp1 fun k => by rw [hm1 k, decide_eq_true_eq]
    subst e3
    exact q r _ (fresh_back (e2.trans (Ex.new hs)) hr) ((e2.trans (Ex.new hs)).trans (Ex.new hr)) upd_same⟩⟩
theorem el_sortsetV {w : World} {a : Addr} {ns ms : List Int} (ha : Ev ta σ H (.ref a)) (hs : SqL K H a (ns.map V.int)) (hl : ns.length ≤ 4000) (hm : ∀ l : List Int, l.Pairwise (· < ·) → (∀ k, k ∈ l ↔ k ∈ ns) → l = ms) :
    EvL (tCB (rSortedSetA w) (tCons (tCB (rSetL K w) (tCons ta tNil)) tNil)) σ H (ms.map V.int) := fun H1 e Q q =>
  ha H1 e _ fun H2 e2 => ⟨a, ns, rfl, ex_l (e.trans e2) hs, hl, fun s c hs hc => ⟨s, _, c, rfl, upd_same, fun l r hp1 hm1 hn hr => by
    have e3 := hm l hp1 fun k => by rw [hm1 k, decide_eq_true_eq]
    subst e3
    exact q r _ (fresh_back (e2.trans (Ex.new hs)) hr) ((e2.trans (Ex.new hs)).trans (Ex.new hr)) upd_same⟩⟩
theorem dps_ints {ns : List Int} : DpAll K H (ns.map V.int) (ns.map PyData.int) := by
  induction ns with
  | nil => exact .nil
  | cons n ns ih => exact .cons (.int n) ih
theorem eqv_ints : ∀ a b : List Int, PyData.eqvAll (a.map PyData.int) (b.map PyData.int) = decide (a = b)
  | [], [] => rfl
  | [], y :: b => by simp [PyData.eqvAll]
  | x :: a, [] => by simp [PyData.eqvAll]
  | x :: a, y :: b => by
    rw [List.map_cons, List.map_cons, PyData.eqvAll, eqv_ints a b]
    simp [PyData.eqv]
    rfl
theorem shaped_ints (a : List Int) : SeqAt.shaped (.list (a.map PyData.int)) = true := by
  have h : ∀ a : List Int, PyData.canLayAll0 (a.map PyData.int) = true ∧ PyData.depthAll (a.map PyData.int) = 0 := by
    intro a
    induction a with
    | nil => exact ⟨rfl, rfl⟩
    | cons n a ih => exact ⟨by rw [List.map_cons, PyData.canLayAll0, ih.1]; rfl, by rw [List.map_cons, PyData.depthAll, ih.2]; rfl⟩
  unfold SeqAt.shaped
  rw [PyData.canLay0, (h a).1, PyData.depth, (h a).2]
  rfl
end
end Tc
/-! data made beside a bag of draws -/
namespace Tc
open PySem L2 Evl
/-- sizes of data: c counts how often it was changed, n how deep it is -/
def gd (c : Nat) : Nat → PyData → Bool
  | _, .none => true
  | _, .bool _ => true
  | _, .int i => decide (i.natAbs ≤ 10 ^ 31 + 1000 * c)
  | _, .str z => decide (z.length ≤ 100 * 3 ^ c)
  | n + 1, .list ds => decide (ds.length ≤ 1100 + c) && ds.all (gd c n)
  | n + 1, .tuple ds => decide (ds.length ≤ 1100 + c) && ds.all (gd c n)
  | _, _ => false
theorem gd_n {c : Nat} : ∀ (n : Nat) (d : PyData), gd c n d = true → gd c (n + 1) d = true
  | _, .none, _ => rfl
  | _, .bool _, _ => rfl
  | 0, .int i, h => h
  | n + 1, .int i, h => h
  | 0, .str i, h => h
  | n + 1, .str i, h => h
  | 0, .list ds, h => by cases h
  | 0, .tuple ds, h => by cases h
  | 0, .dict ds, h => by cases h
  | n + 1, .dict ds, h => by cases h
  | n + 1, .list ds, h => by
    rw [gd, Bool.and_eq_true, List.all_eq_true] at h ⊢
    exact ⟨h.1, fun d m => gd_n n d (h.2 d m)⟩
  | n + 1, .tuple ds, h => by
    rw [gd, Bool.and_eq_true, List.all_eq_true] at h ⊢
    exact ⟨h.1, fun d m => gd_n n d (h.2 d m)⟩
theorem gd_c {c : Nat} : ∀ (n : Nat) (d : PyData), gd c n d = true → gd (c + 1) n d = true
  | _, .none, _ => by rw [gd]
  | _, .bool _, _ => by rw [gd]
  | 0, .int i, h => decide_eq_true (by have := of_decide_eq_true (p := i.natAbs ≤ 10 ^ 31 + 1000 * c) h; omega)
  | n + 1, .int i, h => decide_eq_true (by have := of_decide_eq_true (p := i.natAbs ≤ 10 ^ 31 + 1000 * c) h; omega)
  | 0, .str z, h => decide_eq_true (by have := of_decide_eq_true (p := z.length ≤ 100 * 3 ^ c) h; rw [Nat.pow_succ]; omega)
  | n + 1, .str z, h => decide_eq_true (by have := of_decide_eq_true (p := z.length ≤ 100 * 3 ^ c) h; rw [Nat.pow_succ]; omega)
  | 0, .list ds, h => by cases h
  | 0, .tuple ds, h => by cases h
  | 0, .dict ds, h => by cases h
  | n + 1, .dict ds, h => by cases h
  | n + 1, .list ds, h => by
    rw [gd, Bool.and_eq_true, List.all_eq_true, decide_eq_true_eq] at h ⊢
    exact ⟨by omega, fun d m => gd_c n d (h.2 d m)⟩
  | n + 1, .tuple ds, h => by
    rw [gd, Bool.and_eq_true, List.all_eq_true, decide_eq_true_eq] at h ⊢
    exact ⟨by omega, fun d m => gd_c n d (h.2 d m)⟩
theorem gd_le {c n m : Nat} {d : PyData} (h : gd c n d = true) (hm : n ≤ m) : gd c m d = true := by
  induction hm with
  | refl => exact h
  | step _ ih => exact gd_n _ _ ih
theorem gd_lc {c e n : Nat} {d : PyData} (h : gd c n d = true) (hm : c ≤ e) : gd e n d = true := by
  induction hm with
  | refl => exact h
  | step _ ih => exact gd_c _ _ ih
theorem gd_tup {c n : Nat} {ds : List PyData} : gd c (n + 1) (.tuple ds) = true ↔ ds.length ≤ 1100 + c ∧ ∀ d ∈ ds, gd c n d = true := by
  rw [gd, Bool.and_eq_true, List.all_eq_true, decide_eq_true_eq]
theorem gd_lst {c n : Nat} {ds : List PyData} : gd c (n + 1) (.list ds) = true ↔ ds.length ≤ 1100 + c ∧ ∀ d ∈ ds, gd c n d = true := by
  rw [gd, Bool.and_eq_true, List.all_eq_true, decide_eq_true_eq]
section
variable {b : Addr} {K : PySem.W.Frag} {σ : L2.St} {H : Hp} {ta tb tc te : TE} {t : TT} {x y z v : V} {d : PyData}
theorem dpt_new {p : Addr} {vs : List V} {ds : List PyData} (hb : Bag H b) (hp : H p = none) (h : DpAll K (hid b H) vs ds) : Dp K (hid b (upd H p (.tup vs))) (.ref p) (.tuple ds) :=
  .tup (st_of (hid_at upd_same (hb.ne hp))) (dps_same (Fr.new hb hp).sm _ _ h)
theorem fr_back {b p : Addr} {H H1 : Hp} (e : Fr b H H1) (hp : H1 p = none) : H p = none ∨ p = b := by
  by_cases h : p = b
  · exact .inr h
  · cases e1 : H p with
    | none => exact .inl rfl
    | some o =>
      rw [e.at e1 h] at hp
      cases hp
theorem fr_back' {b p : Addr} {H H1 : Hp} (e : Fr b H H1) (hp : H1 p = none) : H p = none := by
  rcases fr_back e hp with h | h
  · exact h
  · exact absurd h (e.bag.ne hp)
end
end Tc
namespace Tc
open PySem L2 Evl
section
variable {b : Addr} {K : PySem.W.Frag} {σ : L2.St} {H : Hp} {ta tb tc te : TE} {t : TT} {x y z v : V} {d : PyData} {Q : VK} {E : XK}
theorem take_of {ta : TA} {m : Int} (hB : Bag H b) (ha : EvA ta σ H [.ref b, .int m]) (h0 : 0 < m) (h1 : m < 1073741824) (q : ∀ r H', Fr b H H' → 0 ≤ r → r < m → Q (.int r) H') : tCall spTake [] E ta σ H Q :=
  ha H (Ex.refl H) _ fun H1 e => ⟨b, m, rfl, (Fr.ex hB e).bag, h0, h1, fun r H' fr => q r H' ((Fr.ex hB e).trans fr)⟩
theorem el_cat {xs ys : List V} (ha : EvL ta σ H xs) (hb : EvL tb σ H ys) (hl : xs.length + ys.length ≤ 100000) : EvL (tOp rCat ta tb) σ H (xs ++ ys) := fun H1 e Q q =>
  ha H1 e _ fun p H2 hp e2 h2 => hb H2 (e.trans e2) _ fun r H3 hr e3 h3 => ⟨p, r, xs, ys, rfl, rfl, e3 p _ h2, h3, sz_of hl, fun s hs => q s _ (fresh_back (e2.trans e3) hs) ((e2.trans e3).trans (Ex.new hs)) upd_same⟩
theorem el_is {xs ys : List V} (h : EvL te σ H xs) (e : xs = ys) : EvL te σ H ys := e ▸ h
/-- an item of a new list by a draw -/
theorem item_new {xs : List V} {tb : TE} (ha : EvL ta σ H xs) (hB : Bag H b) (h : ∀ H1, Fr b H H1 → ∀ Q : VK, (∀ r H', Fr b H1 H' → 0 ≤ r → r < (xs.length : Int) → Q (.int r) H') → tb σ H1 Q) (q : ∀ v H', Fr b H H' → v ∈ xs → Q v H') : tOp (rIxL K) ta tb σ H Q :=
  ha H (Ex.refl H) _ fun p H1 hp e h1 => h H1 (Fr.ex hB e) _ fun r H2 f2 h0 h3 => by
    obtain ⟨n, rfl⟩ : ∃ n : Nat, r = (n : Int) := ⟨r.toNat, by omega⟩
    have hlt : n < xs.length := by omega
    have hpb : p ≠ b := hB.ne hp
    exact ⟨p, xs, n, xs[n], rfl, rfl, sq_of (f2.at h1 hpb), atI_nat (List.getElem?_eq_getElem hlt), q _ _ ((Fr.ex hB e).trans f2) (List.getElem_mem hlt)⟩
/-- keys of a table -/
def spKeys : Sp := fun vs H Q _ => ∃ b : Addr, vs = [.ref b] ∧ Bag H b ∧ ∀ l (ks : List Int) H', Fr b H H' → H l = none → l ≠ b → H' l = some (.lst (ks.map V.int)) → (∀ k ∈ ks, 0 ≤ k ∧ k < 1000) → ks.length ≤ 1000 → Q (.ref l) H'
end
end Tc
namespace Tc
open PySem L2 Evl
theorem same_hid {D : Addr} {H H' : Hp} (e : Same H H') : Same (hid D H) (hid D H') := fun a u h => by
  have n : a ≠ D := fun z => by
    rw [z, hid_self] at h
    cases h
  exact hid_at (e a u (hid_same D H a u h)) n
theorem hid_upd2 {b D : Addr} (H : Hp) (o : HO) (n : D ≠ b) : hid D (hid b (upd H D o)) = hid D (hid b H) := by
  funext a
  unfold hid
  by_cases h : a = D
  · rw [if_pos h, if_pos h]
  · rw [if_neg h, if_neg h]
    by_cases h2 : a = b
    · rw [if_pos h2, if_pos h2]
    · rw [if_neg h2, if_neg h2, upd_ne h]
/-- a list at D that collects data, beside a bag at b -/
structure Col (b : Addr) (K : PySem.W.Frag) (g : PyData → Bool) (H : Hp) (D : Addr) (i : Nat) (H' : Hp) : Prop where
  fr : Fr b H H'
  new : H D = none
  ne : D ≠ b
  ex : ∃ (vs : List V) (ds : List PyData), H' D = some (.lst vs) ∧ DpAll K (hid D (hid b H')) vs ds ∧ vs.length ≤ i ∧ ∀ d ∈ ds, g d = true
section
variable {b D : Addr} {K : PySem.W.Frag} {g : PyData → Bool} {H H' H4 : Hp} {i : Nat} {y : V} {d : PyData}
theorem Col.start (hB : Bag H b) (hD : H D = none) : Col b K g H D 0 (upd H D (.lst [])) := ⟨Fr.new hB hD, hD, hB.ne hD, [], [], upd_same, .nil, Nat.le_refl _, fun d m => by simp at m⟩
theorem Col.skip (c : Col b K g H D i H') (f : Fr b H' H4) : Col b K g H D (i + 1) H4 := by
  obtain ⟨vs, ds, h1, h2, h3, h4⟩ := c.ex
  exact ⟨c.fr.trans f, c.new, c.ne, vs, ds, f.at h1 c.ne, dps_same (same_hid f.sm) _ _ h2, by omega, h4⟩
theorem Col.push (c : Col b K g H D i H') (f : Fr b H' H4) (hy : Dp K (hid D (hid b H4)) y d) (hg : g d = true) (hi : i < 10000) : ∃ acc, H4 D = some (.lst acc) ∧ acc.length < sizeLine ∧ Col b K g H D (i + 1) (upd H4 D (.lst (acc ++ [y]))) := by
  obtain ⟨vs, ds, h1, h2, h3, h4⟩ := c.ex
  refine ⟨vs, f.at h1 c.ne, sz_lt (by omega), Fr.mut (c.fr.trans f) c.new c.ne, c.new, c.ne, vs ++ [y], ds ++ [d], upd_same, ?_, by simp; omega, fun e m => ?_⟩
  · rw [hid_upd2 _ _ c.ne]
    exact dps_app (dps_same (same_hid f.sm) _ _ h2) (.cons hy .nil)
  · rcases List.mem_append.mp m with m | m
    · exact h4 e m
    · rw [List.mem_singleton.mp m]
      exact hg
/-- a pair of ints, new -/
theorem dp_pair {p : Addr} {k r : Int} (hB : Bag H b) (hD : H D ≠ none) (hp : H p = none) : Dp K (hid D (hid b (upd H p (.tup [.int k, .int r])))) (.ref p) (.tuple [.int k, .int r]) :=
  .tup (st_of (hid_at (hid_at upd_same (hB.ne hp)) fun z => hD (z ▸ hp))) (.cons (.int k) (.cons (.int r) .nil))
theorem Col.at (c : Col b K g H D i H') : H' D ≠ none := by
  obtain ⟨vs, ds, h1, _⟩ := c.ex
  rw [h1]
  exact fun z => nomatch z
/-- tuple(..) of what was collected -/
theorem Col.tup {te : TE} {σ : L2.St} {Q : VK} {i : Nat} (h : ∀ Q' : VK, (∀ p H', Col b K g H p i H' → Q' (.ref p) H') → te σ H Q') (hz : i ≤ 1100)
    (q : ∀ v d H', Fr b H H' → Dp K (hid b H') v d → (∃ ds : List PyData, d = .tuple ds ∧ ds.length ≤ i ∧ ∀ d ∈ ds, g d = true) → Q v H') :
    tCB (fun xs H Q => ∃ p ys, xs = [.ref p] ∧ ((SqL K H p ys ∧ ∀ l, H l = none → Q (.ref l) (upd H l (.tup ys))) ∨ (SqT K H p ys ∧ Q (.ref p) H))) (tCons te tNil) σ H Q :=
  h _ fun p H' c => by
    obtain ⟨vs, ds, h1, h2, h3, h4⟩ := c.ex
    refine ⟨p, vs, rfl, .inl ⟨sq_of h1, fun l hl => q (.ref l) (.tuple ds) _ (c.fr.trans (Fr.new c.fr.bag hl)) (dpt_new c.fr.bag hl (dps_same (hid_same p _) _ _ h2)) ⟨ds, rfl, by rw [← dps_len h2]; exact h3, h4⟩⟩⟩
/-- a table of drawn worths -/
def spTab (K : PySem.W.Frag) : Sp := fun vs H Q _ => ∃ (b l : Addr) (ks : List Int), vs = [.ref b, .ref l] ∧ Bag H b ∧ l ≠ b ∧ H l = some (.lst (ks.map V.int)) ∧ (∀ k ∈ ks, 0 ≤ k ∧ k < 1000) ∧ ks.length ≤ 1000 ∧ ∀ v d H', Fr b H H' → Dp K (hid b H') v d → gd 0 2 d = true → Q v H'
theorem gd_pair {k r : Int} (h0 : 0 ≤ k) (h1 : k < 100000) (h2 : 0 ≤ r) (h3 : r < 100000) : gd 0 1 (.tuple [.int k, .int r]) = true := by
  refine gd_tup.mpr ⟨by simp, fun d m => ?_⟩
  simp only [List.mem_cons, List.not_mem_nil, or_false] at m
  rcases m with rfl | rfl
  · exact decide_eq_true (by have : (100000 : Nat) ≤ 10 ^ 31 := by decide
                             omega)
  · exact decide_eq_true (by have : (100000 : Nat) ≤ 10 ^ 31 := by decide
                             omega)
end
end Tc
namespace Tc
open PySem L2 Evl
section
variable {X : Cx}
def rAddB : R2 := fun x y H Q => ∃ (k : Bool) (i : Int), x = .bl k ∧ y = .int i ∧ Q (.int ((if k = true then (1 : Int) else 0) + i)) H
def rSubB : R2 := fun x y H Q => ∃ (k : Bool) (i : Int), x = .bl k ∧ y = .int i ∧ Q (.int ((if k = true then (1 : Int) else 0) - i)) H
def rNegB : V → Hp → VK → Prop := fun x H Q => ∃ k : Bool, x = .bl k ∧ Q (.int (-(if k = true then (1 : Int) else 0))) H
def rStrB : List V → Hp → VK → Prop := fun xs H Q => ∃ k : Bool, xs = [.bl k] ∧ Q (.str (if k = true then "True" else "False")) H
theorem op_add_bi : OpR X (binaryOp .Add) rAddB := by
  intro pins s σ H x y v u Q I rx ry h
  obtain ⟨k, i, rfl, rfl, q⟩ := h
  cases (show v = Value.bool k from rx)
  obtain ⟨t, rfl⟩ := ry
  exact IntBool.add_bool_int ⟨.int _, H, I.tok _, ⟨_, rfl⟩, q⟩
theorem op_sub_bi : OpR X (binaryOp .Sub) rSubB := by
  intro pins s σ H x y v u Q I rx ry h
  obtain ⟨k, i, rfl, rfl, q⟩ := h
  cases (show v = Value.bool k from rx)
  obtain ⟨t, rfl⟩ := ry
  exact IntBool.sub_bool_int ⟨.int _, H, I.tok _, ⟨_, rfl⟩, q⟩
theorem gives_neg_b (k : Bool) : Gives (Builtin.«int.__neg__» ⟨[.bool k], []⟩) (.int (-(if k = true then (1 : Int) else 0))) := .of_eq (by cases k <;> rfl)
theorem un_neg_b : UnR X (unaryOp .USub) rNegB := by
  intro pins s σ H x v Q I rx h
  obtain ⟨k, rfl, q⟩ := h
  cases (show v = Value.bool k from rx)
  exact unaryOp_gives (op := .USub) (typeIs_bool s k) rfl F.slot_bool_neg F.entry_int_neg (F.args_int_neg_1 _) (gives_neg_b k) ⟨.int _, H, I.tok _, ⟨_, rfl⟩, q⟩
theorem call_str_b : CallR X (.type "str") rStrB := by
  intro pins s σ H xs us Q I r h
  obtain ⟨k, rfl, q⟩ := h
  obtain ⟨u, rfl, r1⟩ := vals1 r
  cases (show u = Value.bool k from r1)
  refine PySem.P.str_of_bool ?_
  cases k with
  | true => exact ⟨.str "True", H, I.tok _, ⟨_, rfl⟩, q⟩
  | false => exact ⟨.str "False", H, I.tok _, ⟨_, rfl⟩, q⟩
end
theorem gd_int {c n : Nat} {i : Int} : gd c n (.int i) = true ↔ i.natAbs ≤ 10 ^ 31 + 1000 * c := by
  cases n <;> (rw [gd, decide_eq_true_eq])
theorem gd_str {c n : Nat} {z : Str} : gd c n (.str z) = true ↔ z.length ≤ 100 * 3 ^ c := by
  cases n <;> (rw [gd, decide_eq_true_eq])
theorem text_len {i : Int} {c : Nat} (hc : c ≤ 1000) (h : i.natAbs ≤ 10 ^ 31 + 1000 * c) : (Str.ofString (toString i)).length ≤ 33 := by
  have e := int_text_length_le10 (a := i) (k := 32) (by decide) (by
    have : (10 : Nat) ^ 32 = 10 * 10 ^ 31 := by decide
    have : (1000000 : Nat) ≤ 10 ^ 31 := by decide
    omega)
  rw [ofString_length]
  exact e
theorem log_small {i : Int} {c : Nat} (hc : c ≤ 1000) (h : i.natAbs ≤ 10 ^ 31 + 1000 * c) : i.natAbs.log2 < 1920 := by
  have h1 : i.natAbs < 2 ^ 200 := by
    have : (10 : Nat) ^ 31 + 1000 * 1000 < 2 ^ 200 := by decide
    omega
  by_cases h0 : i.natAbs = 0
  · rw [h0]
    decide
  · have := (Nat.log2_lt h0).mpr h1
    omega
end Tc
/-! data kept apart from a set of objects (the bag, lists under work) -/
namespace Tc
open PySem L2 Evl
open Classical in
noncomputable def cut (S : Addr → Prop) (H : Hp) : Hp := fun a => if S a then none else H a
theorem cut_in {S : Addr → Prop} {H : Hp} {a : Addr} (h : S a) : cut S H a = none := by
  unfold cut
  rw [if_pos h]
theorem cut_at {S : Addr → Prop} {H : Hp} {a : Addr} {o : HO} (h : H a = some o) (n : ¬ S a) : cut S H a = some o := by
  unfold cut
  rw [if_neg n]
  exact h
theorem cut_same (S : Addr → Prop) (H : Hp) : Same (cut S H) H := fun a o h => by
  by_cases n : S a
  · rw [cut_in n] at h
    cases h
  · unfold cut at h
    rw [if_neg n] at h
    exact h
theorem cut_out {S : Addr → Prop} {H : Hp} {a : Addr} {o : HO} (h : cut S H a = some o) : ¬ S a := fun n => by
  rw [cut_in n] at h
  cases h
theorem cut_hid (b : Addr) (H : Hp) : cut (fun a => a = b) H = hid b H := by
  funext a
  unfold cut hid
  by_cases h : a = b
  · rw [if_pos h, if_pos h]
  · rw [if_neg h, if_neg h]
/-- what is kept apart is there -/
structure Sok (S : Addr → Prop) (b : Addr) (H : Hp) : Prop where
  mem : S b
  old : ∀ a, S a → H a ≠ none
section
variable {S : Addr → Prop} {b : Addr} {K : PySem.W.Frag} {σ : L2.St} {H H' : Hp} {ta tb tc te : TE} {t : TT} {x y z v : V} {d : PyData}
theorem Sok.fr (h : Sok S b H) (f : Fr b H H') : Sok S b H' := ⟨h.mem, fun a m => by
  by_cases e : a = b
  · obtain ⟨x, y, hb, _⟩ := f.bag
    rw [e, hb]
    exact fun z => nomatch z
  · cases h1 : H a with
    | none => exact absurd h1 (h.old a m)
    | some o =>
      rw [f.at h1 e]
      exact fun z => nomatch z⟩
theorem Sok.new (h : Sok S b H) {p : Addr} (hp : H p = none) : ¬ S p := fun m => h.old p m hp
theorem cut_sm (h : S b) (f : Fr b H H') : Same (cut S H) (cut S H') := fun a o e => by
  have n := cut_out e
  exact cut_at (f.at (cut_same S H a o e) fun z => n (z ▸ h)) n
/-- the objects of S may change -/
theorem cut_upd {p : Addr} {o : HO} (h : S p) : cut S (upd H p o) = cut S H := by
  funext a
  unfold cut
  by_cases m : S a
  · rw [if_pos m, if_pos m]
  · rw [if_neg m, if_neg m, upd_ne (fun z : a = p => m (z ▸ h))]
theorem cdt_new {p : Addr} {vs : List V} {ds : List PyData} (hS : Sok S b H) (hB : Bag H b) (hp : H p = none) (h : DpAll K (cut S H) vs ds) : Dp K (cut S (upd H p (.tup vs))) (.ref p) (.tuple ds) :=
  .tup (st_of (cut_at upd_same (hS.new hp))) (dps_same (cut_sm hS.mem (Fr.new hB hp)) _ _ h)
theorem cdl_new {p : Addr} {vs : List V} {ds : List PyData} (hS : Sok S b H) (hB : Bag H b) (hp : H p = none) (h : DpAll K (cut S H) vs ds) : Dp K (cut S (upd H p (.lst vs))) (.ref p) (.list ds) :=
  .lst (sq_of (cut_at upd_same (hS.new hp))) (dps_same (cut_sm hS.mem (Fr.new hB hp)) _ _ h)
def CD (S : Addr → Prop) (b : Addr) (K : PySem.W.Frag) (te : TE) (σ : L2.St) (H : Hp) (d : PyData) : Prop := ∀ H1, Fr b H H1 → ∀ Q : VK, (∀ v H2, Fr b H1 H2 → Dp K (cut S H2) v d → Q v H2) → te σ H1 Q
def CDA (S : Addr → Prop) (b : Addr) (K : PySem.W.Frag) (ta : TA) (σ : L2.St) (H : Hp) (ds : List PyData) : Prop := ∀ H1, Fr b H H1 → ∀ Q : List V → Hp → Prop, (∀ vs H2, Fr b H1 H2 → DpAll K (cut S H2) vs ds → Q vs H2) → ta σ H1 Q
def CDL (S : Addr → Prop) (b : Addr) (K : PySem.W.Frag) (te : TE) (σ : L2.St) (H : Hp) (ds : List PyData) : Prop := ∀ H1, Fr b H H1 → ∀ Q : VK, (∀ p vs H2, Fr b H1 H2 → H1 p = none → p ≠ b → H2 p = some (.lst vs) → DpAll K (cut S H2) vs ds → Q (.ref p) H2) → te σ H1 Q
theorem cd_c (h : ∀ H, Dp K H v d) : CD S b K (tC v) σ H d := fun H1 e _ q => q v H1 (Fr.refl e.bag) (h _)
theorem cd_neg {i : Int} : CD S b K (tUn (rU fun i => .int (-i)) (tC (.int i))) σ H (.int (-i)) := fun H1 e _ q => ⟨i, rfl, q _ H1 (Fr.refl e.bag) (.int _)⟩
theorem cd_pow {i j : Int} (h : CPow i j) : CD S b K (tOp (rI CPow fun i j => .int (i ^ j.toNat)) (tC (.int i)) (tC (.int j))) σ H (.int (i ^ j.toNat)) := fun H1 e _ q => ⟨i, j, rfl, rfl, h, q _ H1 (Fr.refl e.bag) (.int _)⟩
theorem cda_nil : CDA S b K tNil σ H [] := fun H1 e _ q => q [] H1 (Fr.refl e.bag) .nil
theorem cda_cons {tr : TA} {ds : List PyData} (hS : S b) (h : CD S b K te σ H d) (r : CDA S b K tr σ H ds) : CDA S b K (tCons te tr) σ H (d :: ds) := fun H1 e _ q =>
  h H1 e _ fun v H2 e2 hv => r H2 (e.trans e2) _ fun vs H3 e3 hvs => q (v :: vs) H3 (e2.trans e3) (.cons (dp_same (cut_sm hS e3) _ _ hv) hvs)
theorem cd_tup {ta : TA} {ds : List PyData} (hS : Sok S b H) (h : CDA S b K ta σ H ds) (hl : ds.length ≤ 100000) : CD S b K (tTup ta) σ H (.tuple ds) := fun H1 e _ q =>
  h H1 e _ fun vs H2 e2 hv => ⟨sz_of (by rw [dps_len hv]; exact hl), fun p hp => q (.ref p) _ (e2.trans (Fr.new e2.bag hp)) (cdt_new ((hS.fr e).fr e2) e2.bag hp hv)⟩
theorem cd_lst {ta : TA} {ds : List PyData} (hS : Sok S b H) (h : CDA S b K ta σ H ds) (hl : ds.length ≤ 100000) : CD S b K (tLst ta) σ H (.list ds) := fun H1 e _ q =>
  h H1 e _ fun vs H2 e2 hv => ⟨sz_of (by rw [dps_len hv]; exact hl), fun p hp => q (.ref p) _ (e2.trans (Fr.new e2.bag hp)) (cdl_new ((hS.fr e).fr e2) e2.bag hp hv)⟩
theorem cdl_lst {ta : TA} {ds : List PyData} (hS : S b) (h : CDA S b K ta σ H ds) (hl : ds.length ≤ 100000) : CDL S b K (tLst ta) σ H ds := fun H1 e _ q =>
  h H1 e _ fun vs H2 e2 hv => ⟨sz_of (by rw [dps_len hv]; exact hl), fun p hp => q p vs _ (e2.trans (Fr.new e2.bag hp)) (fr_back' e2 hp) (e2.bag.ne hp) upd_same (dps_same (cut_sm hS (Fr.new e2.bag hp)) _ _ hv)⟩
theorem cdl_cat {i : Nat} {p : Addr} {vs : List V} {ds es : List PyData} (hS : S b) (hσ : σ[i]? = some (some (.ref p))) (hp : H p = some (.lst vs)) (hpb : p ≠ b) (hd : DpAll K (cut S H) vs ds) (h : CDL S b K tb σ H es) (hl : ds.length + es.length ≤ 100000) :
    CDL S b K (tOp rCat (tVar i) tb) σ H (ds ++ es) := fun H1 e _ q => ⟨.ref p, hσ, h H1 e _ fun r ws H2 e2 hr hrb hr2 hd2 => ⟨p, r, vs, ws, rfl, rfl, (e.trans e2).at hp hpb, hr2, sz_of (by rw [dps_len hd, dps_len hd2]; exact hl), fun s hs =>
  q s (vs ++ ws) _ (e2.trans (Fr.new e2.bag hs)) (fr_back' e2 hs) (e2.bag.ne hs) upd_same (dps_app (dps_same (cut_sm hS ((e.trans e2).trans (Fr.new e2.bag hs))) _ _ hd) (dps_same (cut_sm hS (Fr.new e2.bag hs)) _ _ hd2))⟩⟩
/-- the promise of a def that hands back data, drawing -/
def spNew (K : PySem.W.Frag) (g : PyData → Bool) : Sp := fun vs H Q _ => ∃ (b : Addr) (S : Addr → Prop), vs = [.ref b] ∧ Bag H b ∧ Sok S b H ∧ ∀ v d H', Fr b H H' → Dp K (cut S H') v d → g d = true → Q v H'
/-- one drawn item of a list of data -/
theorem cdraw_item {i j : Nat} {p : Addr} {vs : List V} {ds : List PyData} {Q : VK} {E : XK} (hS : S b) (hB : Bag H b) (hσ : σ[i]? = some (some (.ref p))) (hσ2 : σ[j]? = some (some (.ref b))) (hp : H p = some (.lst vs)) (hpb : p ≠ b) (hd : DpAll K (cut S H) vs ds) (h0 : 0 < ds.length) (hl : ds.length < 1000)
    (q : ∀ v d H', Fr b H H' → d ∈ ds → Dp K (cut S H') v d → Q v H') : tOp (rIxL K) (tVar i) (tCall spTake [] E (tCons (tVar j) (tCons (tCB (rLenS K) (tCons (tVar i) tNil)) tNil))) σ H Q := by
  refine ⟨.ref p, hσ, .ref b, hσ2, .ref p, hσ, p, vs, rfl, .inl (sq_of hp), b, _, rfl, hB, ?_, ?_, fun r H' fr h0' h1' => ?_⟩
  · have := dps_len hd
    omega
  · have := dps_len hd
    omega
  · obtain ⟨n, rfl⟩ : ∃ n : Nat, r = (n : Int) := ⟨r.toNat, by omega⟩
    have hlt : n < vs.length := by omega
    obtain ⟨d, hd1, hd2⟩ := dps_at hd (List.getElem?_eq_getElem hlt)
    exact ⟨p, vs, n, vs[n], rfl, rfl, sq_of (fr.at hp hpb), atI_nat (List.getElem?_eq_getElem hlt), q _ d H' fr (List.mem_of_getElem? hd1) (dp_same (cut_sm hS fr) _ _ hd2)⟩
end
end Tc
namespace Tc
open PySem L2 Evl
section
variable {S : Addr → Prop} {b : Addr} {K : PySem.W.Frag} {σ : L2.St} {H H' : Hp} {ta tb tc te : TE} {t : TT} {x y z v : V} {d : PyData}
theorem ev_isiT (ha : Ev ta σ H v) (h : Dp K H v d) : Ev (tCB (rIsiT K) (tCons ta (tCons (tTup (tCons (tC (.ty "tuple")) (tCons (tC (.ty "list")) tNil))) tNil))) σ H (.bl (isTup d || isLst d)) := fun H1 e Q q =>
  ha H1 e _ fun H2 e2 => ⟨sz_of (by simp), fun p hp => ⟨v, p, [.ty "tuple", .ty "list"], .type (tyN d), [.type "tuple", .type "list"], isTup d || isLst d, rfl, upd_same, .cons (.ty _) (.cons (.ty _) .nil), ty_dp (dp_same ((e.trans e2).trans (Ex.new hp)) _ _ h),
    kitAny_cons (kit_ty (kit_tuple (dp_nodict h))) (fun e1 => kitAny_cons (kit_ty (kit_list (dp_nodict h))) (fun e3 => by rw [e1, e3]; exact kitAny_nil) fun e3 => by rw [e1, e3]; rfl) (fun e1 => by rw [e1]; rfl), q _ (e2.trans (Ex.new hp))⟩⟩
theorem cd_ev (h : ∀ H, Ev te σ H v) (hd : ∀ H, Dp K H v d) : CD S b K te σ H d := fun H1 e _ q => h H1 H1 (Ex.refl H1) _ fun H2 x2 => q v H2 (Fr.ex e.bag x2) (hd _)
theorem cd_item {ds : List PyData} {j : Nat} (hS : S b) (h : CDL S b K ta σ H ds) (hb : ∀ H, Ev tb σ H (.int (j : Int))) (hj : ds[j]? = some d) : CD S b K (tOp (rIxL K) ta tb) σ H d := fun H1 e _ q =>
  h H1 e _ fun p vs H2 f2 hp hpb h2 hd => hb H2 H2 (Ex.refl H2) _ fun H3 x3 => by
    obtain ⟨v, hv, hv2⟩ := dps_at' hd hj
    exact ⟨p, vs, j, v, rfl, rfl, sq_of (x3 p _ h2), atI_nat hv, q v H3 (f2.trans (Fr.ex f2.bag x3)) (dp_same (cut_sm hS (Fr.ex f2.bag x3)) _ _ hv2)⟩
def rAddSt : R2 := fun x y H Q => ∃ i j, x = .str i ∧ y = .str j ∧ i.length + j.length ≤ sizeLine ∧ Q (.str (i ++ j)) H
theorem rv_addS {i j : Str} (h : i.length + j.length ≤ 10000000) : RV rAddSt (.str i) (.str j) H (.str (i ++ j)) := fun H1 _ _ q => ⟨i, j, rfl, rfl, Nat.le_trans h (by decide), q H1 (Ex.refl H1)⟩
theorem ev_slS {tl th : TO} {s : Str} {lo hi : Option Int} (h : Ev te σ H (.str s)) (h1 : EvO tl σ H lo) (h2 : EvO th σ H hi) (hs : s.length ≤ 10000000) : Ev (tSl rSlS te tl th) σ H (.str (cutS s lo hi)) := fun H1 e _ q =>
  h H1 e _ fun H2 e2 => h1 H2 (e.trans e2) _ fun H3 e3 => h2 H3 ((e.trans e2).trans e3) _ fun H4 e4 => ⟨s, rfl, Nat.le_trans hs (by decide), q H4 ((e2.trans e3).trans e4)⟩
theorem ev_upper {s : Str} (h : Ev te σ H (.str s)) (hs : s.length ≤ 5592405) : Ev (tM0 (fun x xs H Q => ∃ a, x = .str a ∧ xs = [] ∧ a.length ≤ 5592405 ∧ Q (.str (Txt.upper a)) H) te) σ H (.str (Txt.upper s)) := fun H1 e _ q =>
  h H1 e _ fun H2 e2 => ⟨⟨s, rfl⟩, s, rfl, rfl, hs, q H2 e2⟩
theorem ev_strI {i : Int} (h : Ev te σ H (.int i)) (hs : i.natAbs.log2 < 1920) : Ev (tCB (fun xs H Q => ∃ i, xs = [.int i] ∧ i.natAbs.log2 < 1920 ∧ Q (.str (toString i)) H) (tCons te tNil)) σ H (.str (toString i)) := ev_cb (ea_cons h ea_nil) fun H1 _ _ q => ⟨i, rfl, hs, q H1 (Ex.refl H1)⟩
theorem ev_strB {k : Bool} (h : Ev te σ H (.bl k)) : Ev (tCB rStrB (tCons te tNil)) σ H (.str (if k = true then "True" else "False")) := ev_cb (ea_cons h ea_nil) fun H1 _ _ q => ⟨k, rfl, q H1 (Ex.refl H1)⟩
theorem rv_addB {k : Bool} {i : Int} : RV rAddB (.bl k) (.int i) H (.int ((if k = true then (1 : Int) else 0) + i)) := fun H1 _ _ q => ⟨k, i, rfl, rfl, q H1 (Ex.refl H1)⟩
theorem rv_subB {k : Bool} {i : Int} : RV rSubB (.bl k) (.int i) H (.int ((if k = true then (1 : Int) else 0) - i)) := fun H1 _ _ q => ⟨k, i, rfl, rfl, q H1 (Ex.refl H1)⟩
theorem ru_negB {k : Bool} : RU rNegB (.bl k) H (.int (-(if k = true then (1 : Int) else 0))) := fun H1 _ _ q => ⟨k, rfl, q H1 (Ex.refl H1)⟩
/-- the promise of the def that spoils data -/
def spSp (K : PySem.W.Frag) (n : Nat) : Sp := fun vs H Q _ => ∃ (b : Addr) (v : V) (d : PyData) (S : Addr → Prop) (c : Nat), vs = [.ref b, v] ∧ Bag H b ∧ Sok S b H ∧ Dp K (cut S H) v d ∧ gd c n d = true ∧ c ≤ 8 ∧
  ∀ v' d' H', Fr b H H' → Dp K (cut S H') v' d' → gd (c + 1) (n + 3) d' = true → Q v' H'
end
theorem pow_bd {c : Nat} (h : c ≤ 9) : 100 * 3 ^ c ≤ 1968300 ∧ 100 ≤ 100 * 3 ^ c := by
  have h1 : 3 ^ c ≤ 3 ^ 9 := Nat.pow_le_pow_right (by decide) h
  have h2 : 1 ≤ 3 ^ c := Nat.pos_of_ne_zero (by
    have := Nat.pow_pos (n := c) (show 0 < 3 by decide)
    omega)
  have h3 : (3 : Nat) ^ 9 = 19683 := by decide
  omega
end Tc
namespace Tc
open PySem L2 Evl
section
variable {S : Addr → Prop} {b : Addr} {K : PySem.W.Frag} {σ : L2.St} {H H' : Hp} {ta tb tc te : TE} {t : TT} {x y z v : V} {d : PyData}
/-- one more object kept apart -/
def also (S : Addr → Prop) (l : Addr) : Addr → Prop := fun a => S a ∨ a = l
theorem also_same {l : Addr} : Same (cut (also S l) H) (cut S H) := fun a o h => cut_at (cut_same _ _ _ _ h) fun m => cut_out h (.inl m)
theorem also_new {l : Addr} (hS : S b) (f : Fr b H H') (hl : H l = none) : Same (cut S H) (cut (also S l) H') := fun a o h => by
  have n := cut_out h
  have h1 := cut_same S H a o h
  refine cut_at (f.at h1 fun z => n (z ▸ hS)) fun m => ?_
  rcases m with m | m
  · exact n m
  · rw [m, hl] at h1
    cases h1
theorem Sok.also {l : Addr} (h : Sok S b H) (hl : H l ≠ none) : Sok (also S l) b H := ⟨.inl h.mem, fun a m => by
  rcases m with m | m
  · exact h.old a m
  · rw [m]
    exact hl⟩
def SQ (K : PySem.W.Frag) (H : Hp) (a : Addr) (xs : List V) : Prop := SqL K H a xs ∨ SqT K H a xs
theorem SQ.same {a : Addr} {xs : List V} (h : SQ K H a xs) (e : Same H H') : SQ K H' a xs := by
  rcases h with h | h
  · exact .inl (ex_l e h)
  · exact .inr (ex_t e h)
theorem ev_lenQ {p : Addr} {xs : List V} (ha : Ev ta σ H (.ref p)) (h : SQ K H p xs) : Ev (tCB (rLenS K) (tCons ta tNil)) σ H (.int (xs.length : Int)) := fun H1 e Q q =>
  ha H1 e _ fun H2 e2 => ⟨p, xs, rfl, h.same (e.trans e2), q H2 e2⟩
theorem cut_len1 (xs : List V) (k : Nat) : (cutV xs none (some (k : Int))).length ≤ k := by
  unfold cutV
  rw [HT.sIx_nat, HT.sIx_none, List.length_take]
  omega
theorem cut_len2 (xs : List V) (k : Nat) : (cutV xs (some (k : Int)) none).length ≤ xs.length - k := by
  unfold cutV
  rw [HT.sIx_nat, HT.sIx_none, List.length_take, List.length_drop]
  omega
theorem dps_cut {xs : List V} {ds : List PyData} (lo hi : Option Int) (h : DpAll K H xs ds) : ∃ es, DpAll K H (cutV xs lo hi) es ∧ ∀ e ∈ es, e ∈ ds := by
  unfold cutV
  exact ⟨_, dps_take _ (dps_drop _ h), fun e m => List.mem_of_mem_drop (List.mem_of_mem_take m)⟩
theorem mem_set {α : Type} {l : List α} {n : Nat} {a e : α} (h : e ∈ l.set n a) : e ∈ l ∨ e = a := by
  rcases List.mem_or_eq_of_mem_set h with h | h
  · exact .inl h
  · exact .inr h
end
end Tc
/-! data beside texts: ==, not in -/
namespace Tc
open PySem L2 Evl
def eqS (s : Str) : PyData → Bool
  | .str z => decide (z = s) | _ => false
def rEqStr (K : PySem.W.Frag) : R2 := fun x y H Q => ∃ (d : PyData) (s : Str), Dp K H x d ∧ y = .str s ∧ Q (.bl (eqS s d)) H
section
variable {X : Cx}
theorem op_eqStr (hu : X.A.units + 64 < cLine) : OpR X (compareOp .Eq) (rEqStr X.K) := by
  intro pins s σ H x y v u Q I rx ry h
  obtain ⟨d, z, hd, rfl, q⟩ := h
  cases hd with
  | non => exact op_eq pins s σ H _ _ v u Q I rx ry ⟨rfl, q⟩
  | bl b => exact op_eq pins s σ H _ _ v u Q I rx ry ⟨rfl, q⟩
  | int i => exact op_eq pins s σ H _ _ v u Q I rx ry ⟨rfl, q⟩
  | str w =>
    refine op_eq pins s σ H _ _ v u Q I rx ry ⟨rfl, ?_⟩
    rw [show decide (V.str w = V.str z) = decide (w = z) from decide_eq_decide.mpr ⟨fun e => V.str.inj e, fun e => congrArg V.str e⟩]
    exact q
  | @lst a xs ds h r =>
    cases (show v = Value.ref a from rx)
    obtain ⟨t, rfl⟩ := (show ∃ t, u = Value.str z t from ry)
    obtain ⟨its, _, pl, _⟩ := I.list h
    exact SeqAt.RcAt.list_str z t pl.isList (by omega) _ _ _ _ ⟨.bl false, H, I, rfl, q⟩
  | @tup a xs ds h r =>
    cases (show v = Value.ref a from rx)
    obtain ⟨t, rfl⟩ := (show ∃ t, u = Value.str z t from ry)
    obtain ⟨its, _, pl, _⟩ := I.tuple h
    exact SeqAt.RcAt.tuple_str z t pl (by omega) _ _ _ _ ⟨.bl false, H, I, rfl, q⟩
end
def inS (ss : List Str) : PyData → Bool
  | .str z => decide (z ∈ ss) | _ => false
def rNotInStr (K : PySem.W.Frag) : R2 := fun x y H Q => ∃ (d : PyData) (p : Addr) (ss : List Str), Dp K H x d ∧ y = .ref p ∧ SqT K H p (ss.map V.str) ∧ Q (.bl (!inS ss d)) H
theorem inV_str (z : Str) : ∀ ss : List Str, inV (.str z) (ss.map V.str) = decide (z ∈ ss)
  | [] => rfl
  | s :: ss => by
    have ih := inV_str z ss
    unfold inV at ih ⊢
    rw [List.map_cons, List.any_cons, ih]
    show ((s == z) || decide (z ∈ ss)) = decide (z ∈ s :: ss)
    by_cases h : s = z
    · subst h
      simp
    · have h2 : ¬ z = s := fun e => h e.symm
      simp [h, h2]
theorem inV_other {x : V} (hx : ∀ s, eqV (.str s) x = false) : ∀ ss : List Str, inV x (ss.map V.str) = false
  | [] => rfl
  | s :: ss => by
    have ih := inV_other hx ss
    unfold inV at ih ⊢
    rw [List.map_cons, List.any_cons, ih, hx]
    rfl
theorem flat_strs' : ∀ ss : List Str, (ss.map V.str).all flatV = true
  | [] => rfl
  | s :: ss => by rw [List.map_cons, List.all_cons, flat_strs' ss]; rfl
theorem strs_mem : ∀ {us : List Value} {xs : List Str}, PyProof.Rows.StrsAre us xs → ∀ v ∈ us, ∃ (z : Str) (t : Tok), v = .str z t
  | _, _, .nil, v, m => by simp at m
  | _, _, .cons z t r, v, m => by
    rcases List.mem_cons.mp m with e | m
    · exact ⟨z, t, e⟩
    · exact strs_mem r v m
section
variable {X : Cx}
theorem op_notInStr (hu : X.A.units + 64 < cLine) : OpR X (compareOp .NotIn) (rNotInStr X.K) := by
  intro pins s σ H x y v u Q I rx ry h
  obtain ⟨d, p, ss, hd, rfl, hp, q⟩ := h
  have flat : ∀ x' : V, flatV x' = true → RelV x' v → Q (.bl (!inV x' (ss.map V.str))) H → wpAny (model X.prog X.w) X.A (compareOp .NotIn v u) (EP X pins σ Q) X.xe s := fun x' fx rx' q' =>
    op_notIn_seq pins s σ H x' _ v u Q I rx' ry ⟨p, _, rfl, .inr hp, fx, flat_strs' ss, q'⟩
  have refs : ∀ a : Addr, v = Value.ref a → (∀ (w : Str) (t : Tok), SeqAt.EqAt X.A.in1 s (.str w t) (.ref a) false) → Q (.bl true) H → wpAny (model X.prog X.w) X.A (compareOp .NotIn v u) (EP X pins σ Q) X.xe s := fun a ev he q' => by
    cases (show u = Value.ref p from ry)
    subst ev
    obtain ⟨its, rv, pl, _⟩ := I.tuple hp
    refine SeqAt.notIn_tupleAt (fun _ => false) pl (fun y hy => ?_) ⟨.bl _, H, I, rfl, ?_⟩
    · have sv := strsAre_of rv
      obtain ⟨i, hi, e⟩ := List.mem_iff_getElem.mp (show y ∈ its by simpa using hy)
      obtain ⟨z, t, e2⟩ := strs_mem sv y (e ▸ List.getElem_mem hi)
      rw [e2]
      exact he z t
    · rw [show its.toArray.any (fun _ => false) = false by simp]
      exact q'
  cases hd with
  | non => exact flat .non rfl rx (by rw [inV_other (fun s => rfl)]; exact q)
  | bl b => exact flat (.bl b) rfl rx (by rw [inV_other (fun s => rfl)]; exact q)
  | int i => exact flat (.int i) rfl rx (by rw [inV_other (fun s => rfl)]; exact q)
  | str w => exact flat (.str w) rfl rx (by rw [inV_str]; exact q)
  | @lst a xs ds h r =>
    obtain ⟨its, _, pl, _⟩ := I.list h
    exact refs a rx (fun w t => SeqAt.EqAt.str_list w t pl.isList (by simp; omega)) q
  | @tup a xs ds h r =>
    obtain ⟨its, _, pl, _⟩ := I.tuple h
    exact refs a rx (fun w t => SeqAt.EqAt.str_tuple w t pl (by simp; omega)) q
end
section
variable {K : PySem.W.Frag} {σ : L2.St} {H : Hp} {ta tb tc te : TE} {x y z v : V} {d : PyData}
theorem ev_eqStr {s : Str} (ha : Ev ta σ H v) (h : Dp K H v d) (hb : Ev tb σ H (.str s)) : Ev (tOp (rEqStr K) ta tb) σ H (.bl (eqS s d)) := ev_op ha hb fun H1 e _ q => ⟨d, s, dp_same e _ _ h, rfl, q H1 (Ex.refl H1)⟩
theorem ev_notInStr {ss : List Str} (ha : Ev ta σ H v) (h : Dp K H v d) (hb : EvU tb σ H (ss.map V.str)) : Ev (tOp (rNotInStr K) ta tb) σ H (.bl (!inS ss d)) := ev_opU ha hb fun p H1 hp e1 H2 e2 _ q => ⟨d, p, ss, dp_same (e1.trans e2) _ _ h, rfl, st_of (e2 p _ hp), q H2 (Ex.refl H2)⟩
theorem ev_all {bs : List Bool} (ha : EvL ta σ H (bs.map V.bl)) : Ev (tCB (rAll K) (tCons ta tNil)) σ H (.bl (bs.all id)) := fun H1 e Q q =>
  ha H1 e _ fun p H2 hp e2 h2 => ⟨p, bs, rfl, sq_of h2, q H2 e2⟩
theorem ev_lst (ha : Ev ta σ H v) (h : Dp K H v d) : Ev (tCB (rIsi K) (tCons ta (tCons (tC (.ty "list")) tNil))) σ H (.bl (isLst d)) := ev_isi ha h (kit_list (dp_nodict h))
theorem ev_ix2 {p : Addr} {xs : List V} {x0 x1 : V} (ha : Ev ta σ H (.ref p)) (h : SqT K H p (x0 :: x1 :: v :: xs)) : Ev (tOp (rIxT K) ta (tC (.int 2))) σ H v := ev_ixT (j := 2) ha h rfl
theorem three_of {α : Type} {l : List α} (h : l.length = 3) : ∃ x y z, l = [x, y, z] := match l, h with | [x, y, z], _ => ⟨x, y, z, rfl⟩
end
end Tc
namespace Tc
open PySem L2 Evl
def rEqE (K : PySem.W.Frag) : R2 := fun x y H Q => ∃ (a b : Addr) (xs : List V), x = .ref a ∧ y = .ref b ∧ SqL K H a xs ∧ SqL K H b [] ∧ Q (.bl xs.isEmpty) H
theorem op_eqE {X : Cx} (hu : X.A.units + 64 < cLine) : OpR X (compareOp .Eq) (rEqE X.K) := by
  intro pins s σ H x y v u Q I rx ry h
  obtain ⟨a, b, xs, rfl, rfl, ha, hb, q⟩ := h
  cases xs with
  | nil => exact op_eqD hu pins s σ H _ _ v u Q I rx ry ⟨.list [], .list [], .lst ha .nil, .lst hb .nil, rfl, rfl, q⟩
  | cons z zs =>
    cases (show v = Value.ref a from rx)
    cases (show u = Value.ref b from ry)
    obtain ⟨i1, r1, l1, _⟩ := I.list ha
    obtain ⟨i2, r2, l2, _⟩ := I.list hb
    have h1 : (i1.toArray.size != i2.toArray.size) = true := by
      have e1 := r1.length
      have e2 := r2.length
      simp only [List.size_toArray]
      rw [← e1, ← e2]
      rfl
    exact SeqAt.RcAt.lists_lengths l1.isList l2.isList h1 (by omega) _ _ _ _ ⟨.bl false, H, I, rfl, q⟩
section
variable {K : PySem.W.Frag} {σ : L2.St} {H : Hp} {ta tb tc te : TE} {t : TT} {x y z v : V} {d : PyData}
theorem ev_dict2 {i j n : Int} {x y z : V} (hb : Ev tb σ H (.int n)) (hv : valV (mergeK [] [((.inl i : Key), x), (.inl j, y)]) (.inl n) = some z) : Ev (tDGet (tDisp [(tC (.int i), tC x), (tC (.int j), tC y)]) tb) σ H z := fun H1 e Q q p hp =>
  ⟨upd_same, [((.inl i : Key), x), (.inl j, y)], rfl, by simp, hb _ (e.trans (Ex.mut (Ex.new hp) hp)) _ fun H3 e3 => ⟨p, z, rfl, hv ▸ DGet.k (k := .inl n) (e3 p _ upd_same), q H3 ((Ex.mut (Ex.new hp) hp).trans e3)⟩⟩
theorem ev_eqE {xs : List V} (ha : EvL ta σ H xs) : Ev (tOp (rEqE K) ta (tLst tNil)) σ H (.bl xs.isEmpty) :=
  ev_opLL ha (el_lst ea_nil (by simp)) fun p r H1 hp hr x1 H2 x2 Q q => ⟨p, r, _, rfl, rfl, sq_of (x2 p _ hp), sq_of (x2 r _ hr), q H2 (Ex.refl H2)⟩
theorem given_emptyB {n : Nat} {ds : List PyData} (f : PyData → Bool) (u : Nat → V) (hn : n = ds.length) : (given n (fun i => !f (ds.getD i .none)) u).isEmpty = ds.all f := by
  subst hn
  rw [Bool.eq_iff_iff, given_empty, List.all_eq_true]
  constructor
  · intro h d m
    obtain ⟨i, hi, rfl⟩ := List.mem_iff_getElem.mp m
    have := h i hi
    rw [List.getD_eq_getElem?_getD, List.getElem?_eq_getElem hi] at this
    cases e : f ds[i] with
    | true => rfl
    | false =>
      simp only [Option.getD_some] at this
      rw [e] at this
      cases this
  · intro h i hi
    rw [List.getD_eq_getElem?_getD, List.getElem?_eq_getElem hi]
    simp only [Option.getD_some]
    rw [h _ (List.getElem_mem hi)]
    rfl
end
end Tc
namespace Tc
open PySem L2 Evl
/-- a list at D that collects data, one a turn, beside a bag at b, apart from S -/
structure ColE (S : Addr → Prop) (b : Addr) (K : PySem.W.Frag) (g : PyData → Bool) (H : Hp) (D : Addr) (i : Nat) (H' : Hp) : Prop where
  fr : Fr b H H'
  sok : Sok S b H
  new : H D = none
  ne : D ≠ b
  ex : ∃ (vs : List V) (ds : List PyData), H' D = some (.lst vs) ∧ DpAll K (cut (also S D) H') vs ds ∧ vs.length = i ∧ ∀ d ∈ ds, g d = true
section
variable {S : Addr → Prop} {b D : Addr} {K : PySem.W.Frag} {g : PyData → Bool} {H H' H4 : Hp} {i : Nat} {y : V} {d : PyData}
theorem ColE.start (hS : Sok S b H) (hB : Bag H b) (hD : H D = none) : ColE S b K g H D 0 (upd H D (.lst [])) := ⟨Fr.new hB hD, hS, hD, hB.ne hD, [], [], upd_same, .nil, rfl, fun d m => by simp at m⟩
theorem ColE.skip (c : ColE S b K g H D i H') (f : Fr b H' H4) : ColE S b K g H D i H4 := by
  obtain ⟨vs, ds, h1, h2, h3, h4⟩ := c.ex
  exact ⟨c.fr.trans f, c.sok, c.new, c.ne, vs, ds, f.at h1 c.ne, dps_same (cut_sm (.inl c.sok.mem) f) _ _ h2, h3, h4⟩
theorem ColE.push (c : ColE S b K g H D i H') (f : Fr b H' H4) (hy : Dp K (cut (also S D) H4) y d) (hg : g d = true) (hi : i < 10000) : ∃ acc, H4 D = some (.lst acc) ∧ acc.length < sizeLine ∧ ColE S b K g H D (i + 1) (upd H4 D (.lst (acc ++ [y]))) := by
  obtain ⟨vs, ds, h1, h2, h3, h4⟩ := c.ex
  refine ⟨vs, f.at h1 c.ne, sz_lt (by omega), Fr.mut (c.fr.trans f) c.new c.ne, c.sok, c.new, c.ne, vs ++ [y], ds ++ [d], upd_same, ?_, by simp; omega, fun e m => ?_⟩
  · rw [cut_upd (.inr rfl)]
    exact dps_app (dps_same (cut_sm (.inl c.sok.mem) f) _ _ h2) (.cons hy .nil)
  · rcases List.mem_append.mp m with m | m
    · exact h4 e m
    · rw [List.mem_singleton.mp m]
      exact hg
theorem ColE.at (c : ColE S b K g H D i H') : H' D ≠ none := by
  obtain ⟨vs, ds, h1, _⟩ := c.ex
  rw [h1]
  exact fun z => nomatch z
theorem ColE.from {H1 : Hp} (hS : Sok S b H) (f : Fr b H H1) (c : ColE S b K g H1 D i H') : ColE S b K g H D i H' := by
  obtain ⟨vs, ds, h1, h2, h3, h4⟩ := c.ex
  exact ⟨f.trans c.fr, hS, fr_back' f c.new, c.ne, vs, ds, h1, h2, h3, h4⟩
theorem ColE.sokD (c : ColE S b K g H D i H') : Sok (also S D) b H' := (c.sok.fr c.fr).also c.at
/-- a new tuple of leaves, apart from S and D -/
theorem dp_leaves {p : Addr} {vs : List V} {ds : List PyData} (hS : Sok S b H) (hp : H p = none) (h : ∀ H2, DpAll K H2 vs ds) : Dp K (cut S (upd H p (.tup vs))) (.ref p) (.tuple ds) :=
  .tup (st_of (cut_at upd_same (hS.new hp))) (h _)
/-- keys of a table, one at least -/
def spKeysP : Sp := fun vs H Q _ => ∃ b : Addr, vs = [.ref b] ∧ Bag H b ∧ ∀ l (ks : List Int) H', Fr b H H' → H l = none → l ≠ b → H' l = some (.lst (ks.map V.int)) → (∀ k ∈ ks, 0 ≤ k ∧ k < 1000) → ks.length ≤ 1000 → 0 < ks.length → Q (.ref l) H'
/-- a list of keys at l -/
structure KeysAt (b : Addr) (H : Hp) (l : Addr) (ks : List Int) : Prop where
  ne : l ≠ b
  h : H l = some (.lst (ks.map V.int))
  bd : ∀ k ∈ ks, 0 ≤ k ∧ k < 1000
  few : ks.length ≤ 1000
  some : 0 < ks.length
theorem KeysAt.fr {l : Addr} {ks : List Int} (k : KeysAt b H l ks) (f : Fr b H H') : KeysAt b H' l ks := ⟨k.ne, f.at k.h k.ne, k.bd, k.few, k.some⟩
/-- one of the keys -/
def spOf : Sp := fun vs H Q _ => ∃ (b l : Addr) (ks : List Int), vs = [.ref b, .ref l] ∧ Bag H b ∧ KeysAt b H l ks ∧ ∀ k H', k ∈ ks → Fr b H H' → Q (.int k) H'
end
end Tc
/-! a set comprehension with two for's, its members ints -/
namespace Tc
open PySem PySem.Spec PyProof.Rows L2
/-- {elt for t0 in i0 if .. for t1 in i1 if ..} -/
abbrev Sc2 (elt t0 i0 t1 i1 : Expr) (c0 c1 : List Expr) (sc : Scope) (ps : Pos) : Expr := .SetComp elt [⟨t0, i0, c0, 0⟩, ⟨t1, i1, c1, 0⟩] sc ps
/-- the tests of a clause, one behind the other -/
abbrev allOf (cs : List Expr) (env : Env) : Sem Bool := forIn cs true fun c r => if r = true then do let ok ← isTrue c env (eval c env); pure (ForInStep.yield ok) else pure (ForInStep.yield r)
section
variable {prog : Program} {w : World} {A : Around} {R : Result → Shared → Prop} {s : Shared} {elt t0 i0 t1 i1 : Expr} {c0 c1 : List Expr} {sc : Scope} {ps : Pos} {it acc : Value} {env : Env}
/-- what is raised goes the way that the comprehension's frame notes -/
abbrev Nt (prog : Program) (w : World) (A : Around) (env : Env) (R : Result → Shared → Prop) : Value → Shared → Prop := notedBy (model prog w) A env fun e s' => R (.error e) s'
theorem turnS_out : compTurn (Sc2 elt t0 i0 t1 i1 c0 c1 sc ps) 0 it acc env = (standAt i0.pos >>= fun _ => pyNext it >>= fun r => match r with
      | none => pure (.done .next)
      | some v => (letOwnedTupleGo t0 it v >>= fun _ => assign t0 env v >>= fun _ => allOf c0 env >>= fun ok => if ok then
          (eval i1 env >>= fun x => standAt i1.pos >>= fun _ => foldedSetIterable i1 env x >>= fun x => holding [x] (pyIter x) >>= fun j => runOwn (.compStart (Sc2 elt t0 i0 t1 i1 c0 c1 sc ps) 1 j acc env) env >>= fun _ => again (.compLoop (Sc2 elt t0 i0 t1 i1 c0 c1 sc ps) 0 it acc env))
          else again (.compLoop (Sc2 elt t0 i0 t1 i1 c0 c1 sc ps) 0 it acc env))) := by rfl
theorem turnS_in : compTurn (Sc2 elt t0 i0 t1 i1 c0 c1 sc ps) 1 it acc env = (standAt i1.pos >>= fun _ => pyNext it >>= fun r => match r with
      | none => pure (.done .next)
      | some v => (letOwnedTupleGo t1 it v >>= fun _ => assign t1 env v >>= fun _ => allOf c1 env >>= fun ok => if ok then
          ((eval elt env >>= fun v => standAt elt.pos >>= fun _ => call (.builtin "set.add") [acc, v] >>= fun _ => pure ()) >>= fun _ => again (.compLoop (Sc2 elt t0 i0 t1 i1 c0 c1 sc ps) 1 it acc env))
          else again (.compLoop (Sc2 elt t0 i0 t1 i1 c0 c1 sc ps) 1 it acc env))) := by rfl
/-- one turn of a clause: what comes next is taken, stored and tested; Y: what is wanted where the tests hold, N: where they don't, Z: at the end -/
def TurnOf (prog : Program) (w : World) (A : Around) (env : Env) (E : Value → Shared → Prop) (tg : Expr) (cs : List Expr) (it : Value) (Z : Shared → Prop) (Y N : Shared → Prop) (s : Shared) : Prop :=
  wpAny (model prog w) A (pyNext it) (fun r s₁ => match r with
    | none => Z s₁
    | some v => wpAny (model prog w) A (letOwnedTupleGo tg it v) (fun _ s₂ => wpAny (model prog w) A (assign tg env v) (fun _ s₃ => wpAny (model prog w) A (allOf cs env) (fun ok s₄ => if ok = true then Y s₄ else N s₄) E s₃) E s₂) E s₁) E s
theorem loopS_in (I : Nat → Shared → Prop) (turn : ∀ n s, I n s → TurnOf prog w A env (Nt prog w A env R) t1 c1 it (R (.ok .next))
      (fun s₄ => wpAny (model prog w) A (eval elt env) (fun x s₅ => wpAny (model prog w) A (call (.builtin "set.add") [acc, x]) (fun _ s₆ => ∃ m, m < n ∧ I m s₆) (Nt prog w A env R) s₅) (Nt prog w A env R) s₄) (fun s₄ => ∃ m, m < n ∧ I m s₄) s)
    (n : Nat) (h : I n s) : codeAny (model prog w) A (.compLoop (Sc2 elt t0 i0 t1 i1 c0 c1 sc ps) 1 it acc env) R s := by
  refine codeAny_loop rfl I (fun n s hI => (show wpAny _ A ((compTurn (Sc2 elt t0 i0 t1 i1 c0 c1 sc ps) 1 it acc env).onRaise (fun x => do noteFrame x env; theTreesLotGoes x)) _ _ s from wpAny_noted ?_)) n h
  rw [turnS_in]
  refine wpAny_bind (wpAny_standAt (wpAny_bind (wpAny_mono (turn n s hI) (fun r s₁ h₁ => ?_) fun _ _ z => z)))
  match r, h₁ with
  | none, h₁ => exact wpAny_pure h₁
  | some v, h₁ =>
    refine wpAny_bind (wpAny_mono h₁ (fun _ s₂ h₂ => wpAny_bind (wpAny_mono h₂ (fun _ s₃ h₃ => wpAny_bind (wpAny_mono h₃ (fun ok s₄ h₄ => ?_) fun _ _ z => z)) fun _ _ z => z)) fun _ _ z => z)
    match ok, h₄ with
    | false, h₄ => exact wpAny_pure ⟨rfl, h₄⟩
    | true, h₄ => exact wpAny_bind (wpAny_bind (wpAny_mono h₄ (fun x s₅ h₅ => wpAny_bind (wpAny_standAt (wpAny_bind (wpAny_mono h₅ (fun _ s₆ h₆ => wpAny_pure (wpAny_pure ⟨rfl, h₆⟩)) fun _ _ z => z)))) fun _ _ z => z))
theorem loopS_out (hs : ∀ x, foldedSetIterable i1 env x = pure x) (I : Nat → Shared → Prop) (turn : ∀ n s, I n s → TurnOf prog w A env (Nt prog w A env R) t0 c0 it (R (.ok .next))
      (fun s₄ => wpAny (model prog w) A (eval i1 env) (fun x s₅ => wpAny (model prog w) A (pyIter x) (fun j s₆ => codeAny (model prog w) A (.compStart (Sc2 elt t0 i0 t1 i1 c0 c1 sc ps) 1 j acc env) (fun r s' => match r with
        | .ok _ => ∃ m, m < n ∧ I m s' | .error _ => False) s₆) (Nt prog w A env R) s₅) (Nt prog w A env R) s₄) (fun s₄ => ∃ m, m < n ∧ I m s₄) s)
    (n : Nat) (h : I n s) : codeAny (model prog w) A (.compLoop (Sc2 elt t0 i0 t1 i1 c0 c1 sc ps) 0 it acc env) R s := by
  refine codeAny_loop rfl I (fun n s hI => (show wpAny _ A ((compTurn (Sc2 elt t0 i0 t1 i1 c0 c1 sc ps) 0 it acc env).onRaise (fun x => do noteFrame x env; theTreesLotGoes x)) _ _ s from wpAny_noted ?_)) n h
  rw [turnS_out]
  refine wpAny_bind (wpAny_standAt (wpAny_bind (wpAny_mono (turn n s hI) (fun r s₁ h₁ => ?_) fun _ _ z => z)))
  match r, h₁ with
  | none, h₁ => exact wpAny_pure h₁
  | some v, h₁ =>
    refine wpAny_bind (wpAny_mono h₁ (fun _ s₂ h₂ => wpAny_bind (wpAny_mono h₂ (fun _ s₃ h₃ => wpAny_bind (wpAny_mono h₃ (fun ok s₄ h₄ => ?_) fun _ _ z => z)) fun _ _ z => z)) fun _ _ z => z)
    match ok, h₄ with
    | false, h₄ => exact wpAny_pure ⟨rfl, h₄⟩
    | true, h₄ =>
      refine wpAny_bind (wpAny_mono h₄ (fun x s₅ h₅ => wpAny_bind (wpAny_standAt (wpAny_bind (wpAny_of_eq (hs x) (wpAny_bind (wpAny_holding (wpAny_mono h₅ (fun j s₆ h₆ => wpAny_bind (wpAny_runOwn ?_)) fun _ _ z => z))))))) fun _ _ z => z)
      rw [Around.mark_none]
      refine codeAny_mono h₆ fun r s' hr => ?_
      match r, hr with
      | .ok f, hr => first | exact wpAny_pure ⟨rfl, hr⟩ | exact wpAny_bind (wpAny_pure (wpAny_pure ⟨rfl, hr⟩))
      | .error e, hr => exact hr.elim
/-- the start of either clause's loop -/
theorem startS {k : Nat} (hk : k = 0 ∨ k = 1) (h0 : codeAny (model prog w) A (.compLoop (Sc2 elt t0 i0 t1 i1 c0 c1 sc ps) k it acc env) R s)
    (h : wpAny (model prog w) A (pyIter it) (fun j s' => codeAny (model prog w) A (.compLoop (Sc2 elt t0 i0 t1 i1 c0 c1 sc ps) k j acc env) R s') (Nt prog w A env R) s) :
    codeAny (model prog w) A (.compStart (Sc2 elt t0 i0 t1 i1 c0 c1 sc ps) k it acc env) R s := by
  rcases hk with rfl | rfl
  · refine codeAny_of_tree (show wpAny _ _ ((compStart (Sc2 elt t0 i0 t1 i1 c0 c1 sc ps) 0 it acc env).onRaise (fun x => do noteFrame x env; standAt theWindowsPlace)) _ _ s from wpAny_notedAt ?_)
    unfold compStart
    refine (show wpAny _ _ (ask >>= _) _ _ s from wpAny_bind (wpAny_askSetting (wpAny_ite ?_)))
    split
    · first | exact wpAny_bind (wpAny_pure (wpAny_pure ⟨rfl, h0⟩)) | exact wpAny_pure ⟨rfl, h0⟩
    · first
        | exact wpAny_bind (wpAny_rule (wpAny_bind (wpAny_standAt (wpAny_bind (wpAny_mono h (fun j s' z => wpAny_pure ⟨rfl, z⟩) fun _ _ z => z)))))
        | exact wpAny_bind (wpAny_rule (show wpAny _ _ (standAt i0.pos >>= _) _ _ s from wpAny_bind (wpAny_standAt (wpAny_bind (wpAny_mono h (fun j s' z => wpAny_pure ⟨rfl, z⟩) fun _ _ z => z)))))
  · refine codeAny_of_tree (show wpAny _ _ ((compStart (Sc2 elt t0 i0 t1 i1 c0 c1 sc ps) 1 it acc env).onRaise (fun x => do noteFrame x env; standAt theWindowsPlace)) _ _ s from wpAny_notedAt ?_)
    unfold compStart
    refine (show wpAny _ _ (ask >>= _) _ _ s from wpAny_bind (wpAny_askSetting (wpAny_ite ?_)))
    split
    · first | exact wpAny_bind (wpAny_pure (wpAny_pure ⟨rfl, h0⟩)) | exact wpAny_pure ⟨rfl, h0⟩
    · first
        | exact wpAny_bind (wpAny_rule (wpAny_bind (wpAny_standAt (wpAny_bind (wpAny_mono h (fun j s' z => wpAny_pure ⟨rfl, z⟩) fun _ _ z => z)))))
        | exact wpAny_bind (wpAny_rule (show wpAny _ _ (standAt i1.pos >>= _) _ _ s from wpAny_bind (wpAny_standAt (wpAny_bind (wpAny_mono h (fun j s' z => wpAny_pure ⟨rfl, z⟩) fun _ _ z => z)))))
end
section
variable {X : Cx}
/-- the empty set at D -/
abbrev set0 (w : World) (D : Addr) : HO := SetO w D (fun _ => false) 0
/-- k more in the set at D -/
abbrev setMore (w : World) (D : Addr) (S : Int → Bool) (n : Nat) (k : Int) : HO := SetO w D (fun j => S j || decide (j = k)) (if S k = true then n else n + 1)
/-- behind the first clause's store and tests stands the second clause's own loop; vs: the names of both, vs1: of the second -/
def tSc2 (w : World) (wi : TI) (g : TG) (tt : TT) (wi1 : TI) (g1 : TG) (tt1 : TT) (te : TE) (vs vs1 : List Nat) : TE := fun σ H Q => wi σ H fun J H1 => ∀ D, H1 D = none → ∃ W : Nat → Nat → Hp → Prop, (∃ m, W 0 m (upd H1 D (set0 w D))) ∧ ∀ i m H, W i m H →
  (J.stop i H ∧ Q (.ref D) H) ∨ (J.go i H ∧ ∃ Nx : Hp → Prop, (∀ H', Nx H' → ∃ m', m' < m ∧ W (i + 1) m' H') ∧ ∀ x H', J.yld i H x H' → g x (wipe σ vs) H' fun σ2 H2 => wipe σ2 vs = wipe σ vs ∧ tt σ2 H2 fun b H3 => if b = true then
    wi1 σ2 H3 fun J1 H4 => ∃ W1 : Nat → Nat → Hp → Prop, (∃ m, W1 0 m H4) ∧ ∀ j k H, W1 j k H → (J1.stop j H ∧ Nx H) ∨ (J1.go j H ∧ ∃ Nx1 : Hp → Prop, (∀ H', Nx1 H' → ∃ k', k' < k ∧ W1 (j + 1) k' H') ∧
      ∀ x H', J1.yld j H x H' → g1 x (wipe σ2 vs1) H' fun σ3 H5 => wipe σ3 vs1 = wipe σ2 vs1 ∧ tt1 σ3 H5 fun b H6 => if b = true then te σ3 H6 fun y H7 => ∃ (c : Int) (S : Int → Bool) (n : Nat), y = .int c ∧ H7 D = some (SetO w D S n) ∧ n + 1 < scanBound ∧ Nx1 (upd H7 D (setMore w D S n c)) else Nx1 H6)
    else Nx H3)
theorem add_int {pins : List (Addr × Obj)} {σ : L2.St} {H : Hp} {s : Shared} {E : Value → Shared → Prop} {D : Addr} {S : Int → Bool} {n : Nat} {c : Int} {v : Value} {Q : Value → Shared → Prop} (I : Inv X pins σ H s) (hD : H D = some (SetO X.w D S n)) (room : n + 1 < scanBound) (rv : RelV (.int c) v)
    (h : ∀ s', Inv X pins σ (upd H D (setMore X.w D S n c)) s' → Q .none s') : wpAny (model X.prog X.w) X.A (call (.builtin "set.add") [.ref D, v]) Q E s := by
  obtain ⟨t, rfl⟩ := rv
  refine setR_add (setO_get I hD) room fun h' sb new => h _ (I.write (e := D) (t' := s.toks + 1) (by rw [hD]; trivial) (.inl rfl) (fun b u hb hu => (sb.2 b hb).trans hu) ?_ (setO_new new))
  exact let ⟨o, _, _, _, ho, _⟩ := new; ⟨o, ho⟩
set_option maxHeartbeats 4000000 in
theorem pe_sc2 {elt tg iter tg1 iter1 : Expr} {ifs ifs1 : List Expr} {sc : Scope} {own : List (Str × Nat)} {vs1 : List Nat} {pos : Pos} {wi wi1 : TI} {g g1 : TG} {tt tt1 : TT} {te : TE} (hc : X.calm = true) (hN : X.N.Nodup) (hi : PI X tg iter wi) (ok : BlkOk X.N X.env.scope sc own) (hv : ∀ i ∈ vs1, i ∈ own.map (·.2))
    (hb : ∀ (s : Shared) (H : Hp) (C : Addr) (cl : List (Str × Addr)) (fp : List Addr), (PG (X.blk s H sc (compEnvC sc cl C X.env) fp) tg g ∧ PTs (X.blk s H sc (compEnvC sc cl C X.env) fp) ifs tt) ∧ (PI (X.blk s H sc (compEnvC sc cl C X.env) fp) tg1 iter1 wi1 ∧ PG (X.blk s H sc (compEnvC sc cl C X.env) fp) tg1 g1 ∧ PTs (X.blk s H sc (compEnvC sc cl C X.env) fp) ifs1 tt1) ∧ PE (X.blk s H sc (compEnvC sc cl C X.env) fp) elt te)
    (hs : ∀ x, foldedSetIterable iter X.env x = pure x := by intro _; rfl) (hs1 : ∀ env x, foldedSetIterable iter1 env x = pure x := by intro _ _; rfl) :
    PE X (Sc2 elt tg iter tg1 iter1 ifs ifs1 sc pos) (tSc2 X.w wi g tt wi1 g1 tt1 te (own.map (·.2)) vs1) := by
  refine ⟨fun pins s σ H Q I h => ?_⟩
  have hfree : ∀ y ∈ sc.names, y.2 = .free → ∃ c, X.env.cells.lookup y.1 = some c := fun y hy e => (ok.free y hy e).elim (fun z => I.ok.has _ (.inl z)) fun z => I.ok.has _ (.inr z)
  rw [PpSet.eval_SetComp]
  refine wpAny_comprehension_free (use := none) rfl hs (closure_ok hfree) ok.kind (fun y hy e => by rw [ok.uniq y hy, e]) (thn (hi.run pins s σ H _ I h) fun xv s1 hxs => thn hxs fun itv s2 h2 => ?_)
  obtain ⟨it, fp, tn, J, H2, rfl, I2, T, be2, f2, q⟩ := h2
  refine PpSet.newSet_ok (newEnv_comp ?_)
  generalize hD : s2.heap.objs.size = D
  have freeD : H2 D = none := I2.hok.fresh (Nat.le_of_eq hD)
  obtain ⟨W, ⟨m0, w0⟩, tick⟩ := q D freeD
  show codeAny _ _ (.compStart (Sc2 elt tg iter tg1 iter1 ifs ifs1 sc pos) 0 (.ref it) (.ref D) (compEnvC sc (cellsFrom ((withSet X.w s2).heap.objs.size + 1) sc.names (cloFrom X.env.cells sc.names [])) (withSet X.w s2).heap.objs.size X.env)) (compPost (model X.prog X.w) X.A X.xe none (EP X pins σ Q) (.ref D) (withSet X.w s2).heap.objs.size) { (withSet X.w s2) with heap := pushCells ((withSet X.w s2).heap.push { cls := .type "dict", data := .dict #[] }) sc.names }
  generalize hs3 : withSet X.w s2 = s3
  have h3 : s3.heap = s2.heap.push (noneSet X.w) := by rw [← hs3]
  have I3 : Inv X pins σ (upd H2 D (set0 X.w D)) s3 := by
    subst hs3 hD
    exact I2.laid (t' := s2.toks) (fun b o e => Heap.get?_push_of_some _ e) (Nat.le_refl _) (setO_new (setR_fresh X.w))
  have f3 : ∀ b ∈ fp, FpOk X pins (upd H2 D (set0 X.w D)) b ∧ b < s3.heap.objs.size := fun b hb => by
    obtain ⟨o, e, _⟩ := T.obj _ _ be2 b hb
    have lt := Heap.lt_size e
    exact ⟨⟨by rw [upd_ne (by rw [← hD]; exact Nat.ne_of_lt lt)]; exact (f2 b hb).1, (f2 b hb).2⟩, by rw [h3, Heap.size_push]; exact Nat.lt_succ_of_lt lt⟩
  have J4 := block_start I3 ok hN f3
  obtain ⟨⟨pg, pt⟩, ⟨pi1, pg1, pt1⟩, pe⟩ := hb s3 (upd H2 D (set0 X.w D)) s3.heap.objs.size (cellsFrom (s3.heap.objs.size + 1) sc.names (cloFrom X.env.cells sc.names [])) fp
  have no3 : ∀ b ∈ fp, (upd H2 D (set0 X.w D)) b = none := fun b hb => (f3 b hb).1.1
  have be3 : tn 0 s3.heap := T.keep _ _ _ be2 fun b _ o e => by rw [h3]; exact Heap.get?_push_of_some _ e
  generalize hce : compEnvC sc (cellsFrom (s3.heap.objs.size + 1) sc.names (cloFrom X.env.cells sc.names [])) s3.heap.objs.size X.env = ce at J4 pg pt pe pi1 pg1 pt1 ⊢
  have loc : ce.locals = s3.heap.objs.size := by subst hce; rfl
  generalize hH3 : upd H2 D (set0 X.w D) = H3 at I3 J4 pg pt pe pi1 pg1 pt1 w0 no3 f3
  generalize hs4 : ({ s3 with heap := pushCells (s3.heap.push { cls := .type "dict", data := .dict #[] }) sc.names } : Shared) = s4 at J4 ⊢
  have be4 : tn 0 s4.heap := T.keep _ _ _ be3 fun b _ o e => by subst hs4; exact pushCells_keeps _ _ _ _ (Heap.get?_push_of_some _ e)
  have free1 : ∀ {τ : L2.St} {G : Hp} {u : Shared}, Inv (X.blk s3 H3 sc ce fp) [] τ G u → (∀ b ∈ fp, G b = none) → ∀ b ∈ fp, FpOk (X.blk s3 H3 sc ce fp) [] G b := fun {τ G u} I' hn b hb =>
    ⟨hn b hb, (I'.ok.exf b hb).1, I'.ok.exfs b hb, .inl hb, fun x c e => (I'.ok.exf b hb).2 x c e, fun p hp => by simp at hp⟩
  /- the state between two turns of the first loop -/
  let At : Nat → Shared → Prop := fun n u => ∃ i G, Inv (X.blk s3 H3 sc ce fp) [] (wipe σ (own.map (·.2))) G u ∧ tn i u.heap ∧ (∀ b ∈ fp, G b = none) ∧ W i n G
  refine startS (.inl rfl) ?loop (T.self X.A 0 _ _ _ be4 ?loop)
  case loop =>
    refine loopS_out (hs1 ce) At ?_ m0 ⟨0, H3, J4, be4, no3, w0⟩
    rintro n s5 ⟨i, H5, I5, be5, n5, wd5⟩
    rcases tick i n H5 wd5 with ⟨stop, qq⟩ | ⟨go, Nx, hNx, step⟩
    · refine thnF (T.done (X.blk s3 H3 sc ce fp) rfl rfl rfl hc i [] s5 _ H5 (fun _ _ => False) I5 (free1 I5 n5) be5 stop) fun r s6 ⟨hr, I6⟩ => ?_
      subst hr
      have J7 : Inv X pins σ H5 s6 := I3.call' (ch := fp) I6.os I6.base I6.hok I6.bare fun b hb => ⟨(f3 b hb).1.2.2.2.1, (f3 b hb).1.2.1, (f3 b hb).1.2.2.2.2.1, (f3 b hb).1.2.2.2.2.2⟩
      have gone : H5 s3.heap.objs.size = none := loc ▸ (I6.free : H5 ce.locals = none)
      obtain ⟨m, hm, _⟩ := I6.loc
      obtain ⟨g0, g1', g2, g3, g4, g5⟩ := I3.fpOk (Nat.le_refl _) gone
      exact ⟨m, loc ▸ (hm : s6.heap.Ns ce.locals m), fun h'' sb => ⟨.ref D, H5, J7.turned (t' := s6.toks) (fun b o hb e => (sb.2 b hb).trans e) g0 g1' g3 g4 g5, rfl, qq⟩⟩
    · refine thnF (T.item (X.blk s3 H3 sc ce fp) rfl rfl rfl hc i [] s5 _ H5 (fun _ _ => False) I5 (free1 I5 n5) be5 go) fun r s6 ⟨u, hr, h6⟩ => ?_
      subst hr
      refine thnF h6 fun _ s7 ⟨x, H7, I7, r7, y7, be7, n7⟩ => thnF (pg.run _ s7 _ H7 x u _ (I7.pinned (free1 I7 n7) (T.obj _ _ be7)) r7 (step x H7 y7)) fun _ s8 ⟨σ8, H8, I8, hw8, q8⟩ => thnF (pt.run _ s8 σ8 H8 _ I8 q8) fun b s9 ⟨H9, I9, q9⟩ => ?_
      have back : ∀ {τ : L2.St} {u : Shared} {G : Hp}, Inv (X.blk s3 H3 sc ce fp) ([] ++ pinsAt fp s7.heap) τ G u → (wipe σ (own.map (·.2))).length = τ.length → (∀ (j : Nat) v, (wipe σ (own.map (·.2)))[j]? = some (some v) → τ[j]? = some (some v)) → Nx G → ∃ m, m < n ∧ At m u := fun {τ u G} I' hl hk nx => by
        obtain ⟨m', hm, w'⟩ := hNx G nx
        have pin : ∀ b ∈ fp, ∀ o, s7.heap.get? b = some o → u.heap.get? b = some o ∧ G b = none := fun b hb o e => ⟨(I'.pin (b, o) (List.mem_append_right _ (List.mem_append_right _ (mem_pinsAt hb e)))).1, (I'.pin (b, o) (List.mem_append_right _ (List.mem_append_right _ (mem_pinsAt hb e)))).2.1⟩
        refine ⟨m', hm, i + 1, G, (I'.unpinned (pins := [])).weak hl hk, T.keep _ _ _ be7 fun b hb o e => (pin b hb o e).1, fun b hb => ?_, w'⟩
        obtain ⟨o, e, _⟩ := T.obj _ _ be7 b hb
        exact (pin b hb o e).2
      have l8 : (wipe σ (own.map (·.2))).length = σ8.length := by rw [← hw8, wipe_length]
      have k8 : ∀ (j : Nat) v, (wipe σ (own.map (·.2)))[j]? = some (some v) → σ8[j]? = some (some v) := fun j v e => (wipe_some (hw8 ▸ e)).1
      have k9 : ∀ (j : Nat) v, (wipe σ (own.map (·.2)))[j]? = some (some v) → (wipe σ8 vs1)[j]? = some (some v) := fun j v e => by
        obtain ⟨e1, out2⟩ := wipe_some (hw8 ▸ e)
        rw [wipe_out fun z => out2 (hv j z)]
        exact e1
      match b, q9 with
      | false, q9 =>
        show ∃ m, m < n ∧ At m s9
        exact back I9 l8 k8 q9
      | true, q9 =>
        refine thnF (pi1.run _ s9 σ8 H9 _ I9 q9) fun xv s10 hxs => thnF hxs fun itv s11 h11 => ?_
        obtain ⟨it1, fp1, tn1, J1, H11, rfl, I11, T1, be11, f11, W1, ⟨m1, w1⟩, tick1⟩ := h11
        have free2 : ∀ {G : Hp}, (∀ b ∈ fp1, G b = none) → ∀ b ∈ fp1, FpOk (X.blk s3 H3 sc ce fp) ([] ++ pinsAt fp s7.heap) G b := fun hn b hb => ⟨hn b hb, (f11 b hb).2⟩
        let At1 : Nat → Shared → Prop := fun k u => ∃ j G, Inv (X.blk s3 H3 sc ce fp) ([] ++ pinsAt fp s7.heap) (wipe σ8 vs1) G u ∧ tn1 j u.heap ∧ (∀ b ∈ fp1, G b = none) ∧ W1 j k G
        refine startS (.inr rfl) ?inner (T1.self X.A 0 _ _ _ be11 ?inner)
        case inner =>
          refine loopS_in At1 ?_ m1 ⟨0, H11, I11.weak (wipe_length _ _) (fun j v e => (wipe_some e).1), be11, fun b hb => (f11 b hb).1, w1⟩
          rintro k s12 ⟨j, H12, I12, be12, n12, wd12⟩
          rcases tick1 j k H12 wd12 with ⟨stop1, nx1⟩ | ⟨go1, Nx1, hNx1, step1⟩
          · refine thnF (T1.done (X.blk s3 H3 sc ce fp) rfl rfl rfl hc j _ s12 (wipe σ8 vs1) H12 (fun _ _ => False) I12 (free2 n12) be12 stop1) fun r s13 ⟨hr, I13⟩ => ?_
            subst hr
            exact back I13 (l8.trans (wipe_length σ8 vs1).symm) k9 nx1
          · refine thnF (T1.item (X.blk s3 H3 sc ce fp) rfl rfl rfl hc j _ s12 (wipe σ8 vs1) H12 (fun _ _ => False) I12 (free2 n12) be12 go1) fun r s13 ⟨u1, hr, h13⟩ => ?_
            subst hr
            refine thnF h13 fun _ s14 ⟨x1, H14, I14, r14, y14, be14, n14⟩ => thnF (pg1.run _ s14 (wipe σ8 vs1) H14 x1 u1 _ (I14.pinned (free2 n14) (T1.obj _ _ be14)) r14 (step1 x1 H14 y14)) fun _ s15 ⟨σ15, H15, I15, hw15, q15⟩ => thnF (pt1.run _ s15 σ15 H15 _ I15 q15) fun b1 s16 ⟨H16, I16, q16⟩ => ?_
            have back1 : ∀ {u : Shared} {G : Hp}, Inv (X.blk s3 H3 sc ce fp) (([] ++ pinsAt fp s7.heap) ++ pinsAt fp1 s14.heap) σ15 G u → Nx1 G → ∃ m, m < k ∧ At1 m u := fun {u G} I' nx => by
              obtain ⟨m', hm, w'⟩ := hNx1 G nx
              have pin : ∀ b ∈ fp1, ∀ o, s14.heap.get? b = some o → u.heap.get? b = some o ∧ G b = none := fun b hb o e => ⟨(I'.pin (b, o) (List.mem_append_right _ (List.mem_append_right _ (mem_pinsAt hb e)))).1, (I'.pin (b, o) (List.mem_append_right _ (List.mem_append_right _ (mem_pinsAt hb e)))).2.1⟩
              refine ⟨m', hm, j + 1, G, I'.unpinned.weak (by rw [← hw15, wipe_length]) (fun j v e => (wipe_some (hw15 ▸ e)).1), T1.keep _ _ _ be14 fun b hb o e => (pin b hb o e).1, fun b hb => ?_, w'⟩
              obtain ⟨o, e, _⟩ := T1.obj _ _ be14 b hb
              exact (pin b hb o e).2
            match b1, q16 with
            | false, q16 =>
              show ∃ m, m < k ∧ At1 m s16
              exact back1 I16 q16
            | true, q16 =>
              refine thnF (pe.run _ s16 σ15 H16 _ I16 q16) fun z s17 ⟨yv, H17, I17, r17, c, S0, n0, ey, hD17, room, nx⟩ => ?_
              subst ey
              exact add_int (X := X.blk s3 H3 sc ce fp) I17 hD17 room r17 fun s18 I18 => back1 I18 nx
end
end Tc
/-! name = {dict comprehension}; tuple(list) as a tuple without a dict of its own; dict(tuple of pairs) -/
namespace Tc
open PySem PySem.Spec PyProof.Rows L2
section
variable {X : Cx}
theorem ps_setDc {i : Nat} {y : Str} {py : Pos} {kx vx tg iter : Expr} {ifs : List Expr} {scope : Scope} {own : List (Str × Nat)} {pos spos : Pos} {wi : TI} {g : TG} {tt : TT} {tk tv : TE} (hc : X.calm = true) (hN : X.N.Nodup) (hy : X.N[i]? = some y) (hyl : X.env.scope.names.lookup y = some .local)
    (hsw : swapsWith (.DictComp kx vx [⟨tg, iter, ifs, 0⟩] scope pos) (some (.Name y py)) spos.line X.env = pure true) (hi : PI X tg iter wi) (ok : BlkOk X.N X.env.scope scope own)
    (hb : ∀ (s : Shared) (H : Hp) (C : Addr) (cl : List (Str × Addr)) (fp : List Addr), PG (X.blk s H scope (compEnvC scope cl C X.env) fp) tg g ∧ PTs (X.blk s H scope (compEnvC scope cl C X.env) fp) ifs tt ∧ PE (X.blk s H scope (compEnvC scope cl C X.env) fp) kx tk ∧ PE (X.blk s H scope (compEnvC scope cl C X.env) fp) vx tv)
    (hs : ∀ x, foldedSetIterable iter X.env x = pure x := by intro _; rfl) :
    PS X (.Assign [.Name y py] (.DictComp kx vx [⟨tg, iter, ifs, 0⟩] scope pos) spos) (tAsg (tDc wi g tt tk tv (own.map (·.2))) (gName i)) := by
  refine ⟨fun pins s σ H D I hyp => (exec_Assign_Name_used _ _ _ _ hsw).symm ▸ wpAny_bind (wpAny_standAt (wpAny_bind ?_))⟩
  have made : tDc wi g tt tk tv (own.map (·.2)) σ H (fun x H1 => gName i x σ H1 D.nx) := hyp
  show wpAny _ X.A (comprehension (.DictComp kx vx [⟨tg, iter, ifs, 0⟩] scope pos) scope X.env (firstIterPos [⟨tg, iter, ifs, 0⟩] pos) newDict false (eval iter X.env) (some (assign (.Name y py) X.env)) >>= _) _ _ s
  refine wpAny_bind (thn (dc_core (Qf := fun _ s' => SP X pins D .next s') hc hN I hi ok (fun s H C cl fp => (hb s H C cl fp).1) (fun s H C cl fp => (hb s H C cl fp).2.1) (fun s H C cl fp => (hb s H C cl fp).2.2.1) (fun s H C cl fp => (hb s H C cl fp).2.2.2) hs made fun L C t m G J q ns ⟨g0, g1, g2, g3, g4, g5⟩ => ?_) fun _ t done => wpAny_pure (wpAny_pure done))
  /- the name is stored while the comprehension's frame still stands -/
  refine (show wpAny _ _ (assign (.Name y py) X.env (.ref L)) _ _ _ from wpAny_assign_Name (store_ok2 (v := V.ref L) J hN hy (.inl hyl) rfl (fun t2 J2 ⟨c, but, at_⟩ => ?_) (.inr hyl)))
  have apart : C ≠ c := at_.elim (fun z => z ▸ g1) fun z e => g4 y c z e.symm
  exact ⟨m, ns.sameBut but apart, fun _ but3 => ⟨_, G, J2.turned (t' := t2.toks) (fun x o n e => (but3.2 x n).trans e) g0 g1 g3 g4 g5, q⟩⟩
theorem sw_trueD {kx vx : Expr} {gs : List Comprehension} {scope : Scope} {pos py : Pos} {y : Str} {l : Nat} {env : Env} (hk : env.scope.kind = .function) (hy : env.scope.names.lookup y = some .local) (hl : (py.line == pos.line) = true)
    (ha : (scope.names.any fun (n, k) => n == y && (k == .local || k == .cell)) = false) : swapsWith (.DictComp kx vx gs scope pos) (some (.Name y py)) l env = pure true := by
  have kind : env.kindOf y = some .local ∧ env.blockKind = .function := ⟨hy, by simp only [Env.blockKind, hk]; rfl⟩
  simp only [swapsWith, kind, ha, hl, Expr.pos]
  rfl
/-- a tuple that is known to have no dict of its own -/
def PT (H : Hp) (a : Addr) (xs : List V) : Prop := ∃ o : Obj, H a = some (.frz o (.tup xs)) ∧ o.dict = none
theorem PT.same {H H' : Hp} {a : Addr} {xs : List V} (h : PT H a xs) (e : Same H H') : PT H' a xs := let ⟨o, x, d⟩ := h; ⟨o, e a _ x, d⟩
theorem PT.st {K : PySem.W.Frag} {H : Hp} {a : Addr} {xs : List V} (h : PT H a xs) : SqT K H a xs := let ⟨o, x, _⟩ := h; .inl (.inr ⟨o, x⟩)
/-- tuple(list) -/
def rTupP (K : PySem.W.Frag) : List V → Hp → VK → Prop := fun xs H Q => ∃ (p : Addr) (ys : List V), xs = [.ref p] ∧ SqL K H p ys ∧ ∀ (l : Addr) (o : Obj), H l = none → o.dict = none → Q (.ref l) (upd H l (.frz o (.tup ys)))
theorem cr_tupP : CallR X (.type "tuple") (rTupP X.K) := by
  intro pins s σ H xs us Q I r ⟨p, ys, e0, hs, fin⟩
  subst e0
  rw [Vals.ref1 r]
  have ⟨its, rv, pl, size⟩ := I.list hs
  refine call_tuple_list pl.isList (fun g keep => ?_) (by rw [List.size_toArray, ← rv.length]; exact size)
  have kept := I.kept (h' := g) (t' := s.toks) keep
  refine ⟨.ref g.objs.size, _, ?_, rfl, fin _ { cls := .type "tuple", data := .seq its.toArray } (kept.hok.fresh (Nat.le_refl _)) rfl⟩
  exact kept.laid (t' := s.toks) (fun b o e => Heap.get?_push_of_some _ e) (Nat.le_refl _) (show ObjOk X.prog X.w _ _ _ (.frz _ (.tup ys)) from ⟨Heap.get?_push_size _ rfl, size, its, rv, IsTup.new _ _⟩)
/-- dict(tuple of pairs) -/
def rDictT (K : PySem.W.Frag) : List V → Hp → VK → Prop := fun xs H Q => ∃ (a : Addr) (ps : List Addr) (kvs : List (Key × V)), xs = [.ref a] ∧ PT H a (ps.map V.ref) ∧ Paired (fun p kv => SqT K H p [kV kv.1, kv.2]) ps kvs ∧
    ∀ p, H p = none → Q (.ref p) (upd H p (.dK (mergeK [] kvs)))
theorem cr_dictT (hcalm : X.calm = true) : CallR X (.type "dict") (rDictT X.K) := by
  intro pins s σ H xs us Q I r ⟨a, ps, kvs, e0, ⟨o, ho, hdn⟩, hp, q⟩
  subst e0
  rw [Vals.ref1 r]
  obtain ⟨hg, hz, its, rv, o', hg', hcl, n, hdat⟩ := (show ObjOk X.prog X.w H s.heap a (.frz o (.tup (ps.map V.ref))) from I.hok a _ ho)
  obtain rfl : o = o' := Option.some.inj (hg.symm.trans hg')
  have ei := refs_at rv
  subst ei
  rw [List.length_map] at hz
  have ⟨prs, rel, hl, hpr⟩ := pairs_of I hp
  have key : ∃ qs : List (Value × Value), qs.length = prs.length ∧ ∀ (j : Nat) (k v : Value), qs[j]? = some (k, v) → ∃ q, prs[j]? = some q ∧ q.2 = v ∧ ∃ b, ps[j]? = some b ∧ IsTup s.heap b #[k, v] ∧ keyIs q.1 k = true := by
    clear q rel
    have : ∀ (n : Nat), n ≤ prs.length → ∃ qs : List (Value × Value), qs.length = n ∧ ∀ (j : Nat) (k v : Value), qs[j]? = some (k, v) → ∃ q, prs[j]? = some q ∧ q.2 = v ∧ ∃ b, ps[j]? = some b ∧ IsTup s.heap b #[k, v] ∧ keyIs q.1 k = true := by
      intro n
      induction n with
      | zero => exact fun _ => ⟨[], rfl, fun j k v e => by simp at e⟩
      | succ n ih =>
        intro hn
        obtain ⟨qs, l1, h1⟩ := ih (by omega)
        obtain ⟨b, u, e1, e2, e3⟩ := hpr n prs[n] (by simp)
        refine ⟨qs ++ [(u, prs[n].2)], by simp [l1], fun j k v e => ?_⟩
        by_cases hj : j < qs.length
        · rw [List.getElem?_append_left hj] at e
          exact h1 j k v e
        · rw [List.getElem?_append_right (by omega)] at e
          have hj0 : j - qs.length = 0 := by
            rcases Nat.eq_zero_or_pos (j - qs.length) with z | z
            · exact z
            · rw [List.getElem?_eq_none (by simp; omega)] at e
              cases e
          rw [hj0] at e
          have ej : j = n := by omega
          subst ej
          simp only [List.getElem?_cons_zero, Option.some.injEq, Prod.mk.injEq] at e
          obtain ⟨rfl, rfl⟩ := e
          exact ⟨prs[j], by simp, rfl, b, e1, e2, e3⟩
    exact this _ (Nat.le_refl _)
  obtain ⟨qs, lq, hqs⟩ := key
  refine PySem.call_dict_pairs (knd := mixKind X.prog X.w) (kvs := prs) (PairArg.tuple a (ps.map Value.ref).toArray (fun j => ps.getD j 0) qs) (I.ok.hd hcalm) ⟨⟨o, n, hg, hcl, hdn, hdat⟩, by simp [lq, hl], fun j k v e => ?_⟩ ⟨lq.symm, fun j k v e => ?_⟩ (by rw [lq, hl]; exact hz) fun h' tk hd' k => ?_
  · obtain ⟨q', e1, e2, b, e3, e4, e5⟩ := hqs j k v e
    have eb : ps.getD j 0 = b := by rw [List.getD_eq_getElem?_getD, e3]; rfl
    refine ⟨by simp [e3], .inl ?_⟩
    show s.heap.IsTuple (ps.getD j 0) _
    rw [eb]
    exact e4
  · obtain ⟨q', e1, e2, b, e3, e4, e5⟩ := hqs j k v e
    exact ⟨q'.1, by rw [e1, ← e2], e5⟩
  · have few : (mergeK [] kvs).length ≤ sizeLine := Nat.le_trans (length_mergeK kvs []) (by simpa [rel.length, hl] using hz)
    refine ⟨.ref s.heap.objs.size, upd H s.heap.objs.size (.dK (mergeK [] kvs)), ?_, rfl, q _ (I.hok.fresh (Nat.le_refl _))⟩
    exact I.laid (t' := tk) (fun b o e => k b o (by simp) e) (Nat.le_refl _) (show ObjOk X.prog X.w _ _ _ (.dK (mergeK [] kvs)) from ⟨few, beq_eq_false_iff_ne.mpr (Nat.ne_of_gt I.big), merged [] prs, KV.merge rel .nil, hd'⟩)
end
end Tc
/-! a dict of worths by keys, and what changes do to it -/
namespace Tc
open PySem PySem.Spec PyProof.Rows L2
def fset (f : Int → Option Int) (k : Int) (o : Option Int) : Int → Option Int := fun j => if j = k then o else f j
def appl (f : Int → Option Int) (cs : List (Int × Option Int)) : Int → Option Int := cs.foldl (fun f c => fset f c.1 c.2) f
theorem appl_app (f : Int → Option Int) (a b : List (Int × Option Int)) : appl f (a ++ b) = appl (appl f a) b := by
  unfold appl
  rw [List.foldl_append]
/-- keys that are not told stay -/
theorem appl_out : ∀ (cs : List (Int × Option Int)) (f : Int → Option Int) (k : Int), (∀ c ∈ cs, c.1 ≠ k) → appl f cs k = f k
  | [], _, _, _ => rfl
  | c :: cs, f, k, h => by
    show appl (fset f c.1 c.2) cs k = f k
    rw [appl_out cs _ k fun c' m => h c' (List.mem_cons_of_mem _ m)]
    exact if_neg fun e => h c List.mem_cons_self e.symm
/-- keys that are told don't hang on what was ahead -/
theorem appl_in : ∀ (cs : List (Int × Option Int)) (f g : Int → Option Int) (k : Int), (∃ c ∈ cs, c.1 = k) ∨ f k = g k → appl f cs k = appl g cs k
  | [], _, _, _, h => by
    rcases h with ⟨c, m, _⟩ | h
    · cases m
    · exact h
  | c :: cs, f, g, k, h => by
    show appl (fset f c.1 c.2) cs k = appl (fset g c.1 c.2) cs k
    refine appl_in cs _ _ k ?_
    by_cases e : k = c.1
    · right
      unfold fset
      rw [if_pos e, if_pos e]
    · rcases h with ⟨c', m, e'⟩ | h
      · rcases List.mem_cons.mp m with z | m
        · subst z
          exact absurd e'.symm e
        · exact .inl ⟨c', m, e'⟩
      · right
        unfold fset
        rw [if_neg e, if_neg e]
        exact h
structure DI (ks : List Int) (kvs : List (Key × V)) (f : Int → Option Int) : Prop where
  nd : (kvs.map (·.1)).Nodup
  inn : ∀ p ∈ kvs, ∃ k ∈ ks, p.1 = Sum.inl k
  val : ∀ k, valV kvs (Sum.inl k) = (f k).map V.int
theorem DI.nil {ks : List Int} : DI ks [] fun _ => none := ⟨List.nodup_nil, fun p m => (by cases m), fun k => rfl⟩
theorem valV_drop {k j : Key} : ∀ kvs : List (Key × V), valV (dropK kvs k) j = if j = k then none else valV kvs j
  | [] => by
    show valV [] j = _
    rw [valV_nil]
    split <;> rfl
  | p :: r => by
    by_cases e : p.1 = k
    · rw [dropK_pos e, valV_drop r]
      by_cases h : j = k
      · rw [if_pos h, if_pos h]
      · rw [if_neg h, if_neg h, valV_neg fun z => h (z.symm.trans e)]
    · rw [dropK_neg e]
      by_cases h : p.1 = j
      · rw [valV_pos h, valV_pos h, if_neg fun z => e (h.trans z)]
      · rw [valV_neg h, valV_neg h, valV_drop r]
theorem mem_putK {kvs : List (Key × V)} {k : Key} {v : V} {p : Key × V} (h : p ∈ putK kvs k v) : p.1 = k ∨ ∃ q ∈ kvs, q.1 = p.1 := by
  unfold putK at h
  split at h
  · obtain ⟨q, m, rfl⟩ := List.mem_map.mp h
    refine .inr ⟨q, m, ?_⟩
    split <;> rfl
  · rcases List.mem_append.mp h with h | h
    · exact .inr ⟨p, h, rfl⟩
    · rw [List.mem_singleton.mp h]
      exact .inl rfl
theorem putK_old {kvs : List (Key × V)} {k : Key} {v : V} (h : (valV kvs k).isSome = true) : (putK kvs k v).map (·.1) = kvs.map (·.1) := by
  unfold putK
  rw [if_pos (by rw [valV_any]; exact h), List.map_map]
  refine List.map_congr_left fun p _ => ?_
  show (if p.1 = k then (p.1, v) else p).1 = p.1
  split <;> rfl
section
variable {ks : List Int} {kvs : List (Key × V)} {f : Int → Option Int} {k : Int} {w : Int}
theorem DI.put (h : DI ks kvs f) (hk : k ∈ ks) : DI ks (putK kvs (.inl k) (.int w)) (fset f k (some w)) := by
  refine ⟨?_, fun p m => ?_, fun j => ?_⟩
  · cases e : valV kvs (.inl k) with
    | none => exact nd_putK _ h.nd e
    | some v => rw [putK_old (by rw [e]; rfl)]; exact h.nd
  · rcases mem_putK m with e | ⟨q, m, e⟩
    · exact ⟨k, hk, e⟩
    · obtain ⟨j, hj, e'⟩ := h.inn q m
      exact ⟨j, hj, e ▸ e'⟩
  · rw [valV_put, h.val]
    unfold fset
    by_cases e : j = k
    · rw [if_pos e, if_pos (by rw [e])]
      rfl
    · rw [if_neg e, if_neg fun z => e (Sum.inl.inj z)]
theorem DI.drop (h : DI ks kvs f) : DI ks (dropK kvs (.inl k)) (fset f k none) := by
  refine ⟨nd_dropK h.nd, fun p m => h.inn p (dropK_mem m), fun j => ?_⟩
  rw [valV_drop, h.val]
  unfold fset
  by_cases e : j = k
  · rw [if_pos e, if_pos (by rw [e])]
    rfl
  · rw [if_neg e, if_neg fun z => e (Sum.inl.inj z)]
theorem DI.gone (h : DI ks kvs f) (hk : f k = none) : DI ks kvs (fset f k none) := ⟨h.nd, h.inn, fun j => by
  rw [h.val]
  unfold fset
  by_cases e : j = k
  · rw [if_pos e, e, hk]
  · rw [if_neg e]⟩
end
theorem len_sub {α : Type} [DecidableEq α] : ∀ {l m : List α}, l.Nodup → (∀ x ∈ l, x ∈ m) → l.length ≤ m.length
  | [], _, _, _ => Nat.zero_le _
  | x :: l, m, hn, hs => by
    obtain ⟨h1, h2⟩ := List.nodup_cons.mp hn
    have hx : x ∈ m := hs x List.mem_cons_self
    have := len_sub (l := l) (m := m.erase x) h2 fun y hy => (List.mem_erase_of_ne (a := y) (b := x) fun (e : y = x) => h1 (e ▸ hy)).mpr (hs y (List.mem_cons_of_mem _ hy))
    rw [List.length_erase_of_mem hx] at this
    have hp := List.length_pos_of_mem hx
    rw [List.length_cons]
    omega
theorem inls : ∀ {l : List Key}, (∀ x ∈ l, ∃ k, x = Sum.inl k) → ∃ js : List Int, l = js.map Sum.inl
  | [], _ => ⟨[], rfl⟩
  | x :: l, h => by
    obtain ⟨k, rfl⟩ := h x List.mem_cons_self
    obtain ⟨js, rfl⟩ := inls fun y m => h y (List.mem_cons_of_mem _ m)
    exact ⟨k :: js, rfl⟩
theorem valV_memI {kvs : List (Key × V)} {k : Key} : k ∈ kvs.map (·.1) ↔ (valV kvs k).isSome = true := by
  rw [← valV_any, List.any_eq_true, List.mem_map]
  constructor
  · rintro ⟨p, m, e⟩
    exact ⟨p, m, decide_eq_true e⟩
  · rintro ⟨p, m, e⟩
    exact ⟨p, m, of_decide_eq_true e⟩
theorem DI.keys {ks : List Int} {kvs : List (Key × V)} {f : Int → Option Int} (h : DI ks kvs f) : ∃ js : List Int, kvs.map (·.1) = js.map Sum.inl ∧ js.Nodup ∧ (∀ k, k ∈ js ↔ (f k).isSome = true) ∧ js.length ≤ ks.length := by
  obtain ⟨js, e⟩ := inls (l := kvs.map (·.1)) fun x m => by
    obtain ⟨p, hp, rfl⟩ := List.mem_map.mp m
    obtain ⟨k, _, e⟩ := h.inn p hp
    exact ⟨k, e⟩
  have nd : js.Nodup := by
    have := h.nd
    rw [e] at this
    exact (List.pairwise_map.mp this).imp fun {a b} z e => z (congrArg _ e)
  have mem : ∀ k, k ∈ js ↔ (f k).isSome = true := fun k => by
    have := valV_memI (kvs := kvs) (k := .inl k)
    rw [e, h.val, Option.isSome_map] at this
    rw [← this, List.mem_map]
    constructor
    · exact fun m => ⟨k, m, rfl⟩
    · rintro ⟨j, m, z⟩
      cases z
      exact m
  refine ⟨js, e, nd, mem, len_sub nd fun x hx => ?_⟩
  have : (Sum.inl x : Key) ∈ kvs.map (·.1) := e ▸ List.mem_map.mpr ⟨x, hx, rfl⟩
  obtain ⟨p, hp, e'⟩ := List.mem_map.mp this
  obtain ⟨k, hk, e''⟩ := h.inn p hp
  cases (e'.symm.trans e'' : (Sum.inl x : Key) = Sum.inl k)
  exact hk
theorem DI.len {ks : List Int} {kvs : List (Key × V)} {f : Int → Option Int} (h : DI ks kvs f) : kvs.length ≤ ks.length := by
  obtain ⟨js, e, _, _, l⟩ := h.keys
  have := congrArg List.length e
  rw [List.length_map, List.length_map] at this
  omega
/-- the keys that have a worth, rising -/
def KeysOf (f : Int → Option Int) (js : List Int) : Prop := js.Pairwise (· < ·) ∧ ∀ k, k ∈ js ↔ (f k).isSome = true
theorem KeysOf.one {f : Int → Option Int} {a b : List Int} (h : KeysOf f a) (h' : KeysOf f b) : a = b := rising_one a b h.1 h'.1 fun k => (h.2 k).trans (h'.2 k).symm
theorem lt_of_le_nodup {js : List Int} (h : js.Pairwise (· ≤ ·)) (hn : js.Nodup) : js.Pairwise (· < ·) := by
  have : js.Pairwise fun a b => a ≤ b ∧ a ≠ b := List.Pairwise.and h hn
  exact this.imp fun {a b} z => by omega
/-- the rows of f -/
def rowsOf (f : Int → Option Int) (js : List Int) : List (Int × Int) := js.map fun k => (k, (f k).getD 0)
/-- what the rows make of nothing -/
def fRows (rs : List (Int × Int)) : Int → Option Int := appl (fun _ => none) (rs.map fun r => (r.1, some r.2))
theorem appl_rows (f : Int → Option Int) : ∀ (js : List Int) (g : Int → Option Int) (k : Int), (∀ k ∈ js, (f k).isSome = true) → appl g ((rowsOf f js).map fun r => (r.1, some r.2)) k = if k ∈ js then f k else g k
  | [], g, k, _ => by
    rw [if_neg (by simp)]
    rfl
  | j :: js, g, k, h => by
    show appl (fset g j (some ((f j).getD 0))) ((rowsOf f js).map fun r => (r.1, some r.2)) k = _
    rw [appl_rows f js _ k fun k m => h k (List.mem_cons_of_mem _ m)]
    by_cases m : k ∈ js
    · rw [if_pos m, if_pos (List.mem_cons_of_mem _ m)]
    · rw [if_neg m]
      unfold fset
      by_cases e : k = j
      · subst e
        rw [if_pos rfl, if_pos List.mem_cons_self]
        have := h k List.mem_cons_self
        cases hf : f k with
        | none => rw [hf] at this; cases this
        | some w => rfl
      · rw [if_neg e, if_neg fun z => (List.mem_cons.mp z).elim e m]
/-- the rows of f make f -/
theorem fRows_of {f : Int → Option Int} {js : List Int} (h : KeysOf f js) : fRows (rowsOf f js) = f := by
  funext k
  unfold fRows
  rw [appl_rows f js _ k fun k m => (h.2 k).mp m]
  by_cases m : k ∈ js
  · rw [if_pos m]
  · rw [if_neg m]
    cases e : f k with
    | none => rfl
    | some w => exact absurd ((h.2 k).mpr (by rw [e]; rfl)) m
end Tc
/-! changes, entries and logs as data; promises of what the program makes of them -/
namespace Tc
open PySem L2 Evl
def chD : PyData → Int × Option Int
  | .tuple [.str _, .int k] => (k, none)
  | .tuple [.str _, .int k, .int w] => (k, some w)
  | _ => (0, none)
def goodCh (ks : List Int) : PyData → Bool
  | .tuple [.str s, .int k] => decide (s = "drop") && decide (k ∈ ks)
  | .tuple [.str s, .int k, .int w] => decide (s = "put") && (decide (k ∈ ks) && decide (0 ≤ w ∧ w < 1000))
  | _ => false
def chsD : PyData → List PyData
  | .tuple [.str _, .tuple cs] => cs
  | _ => []
def goodEn (ks : List Int) : PyData → Bool
  | .tuple [.str s, .tuple cs] => decide (s = "group") && cs.all (goodCh ks)
  | .tuple [.str s, .int _, .int _] => !decide (s = "group") && PyData.strOk s
  | _ => false
def enD (d : PyData) : List (Int × Option Int) := (chsD d).map chD
def lgD (ds : List PyData) : List (Int × Option Int) := ds.flatMap enD
theorem lgD_app (a b : List PyData) : lgD (a ++ b) = lgD a ++ lgD b := List.flatMap_append
theorem lgD_snoc (a : List PyData) (d : PyData) : lgD (a ++ [d]) = lgD a ++ enD d := by
  rw [lgD_app]
  congr 1
  exact List.append_nil _
def pairD (r : Int × Int) : PyData := .tuple [.int r.1, .int r.2]
def rowsD (rs : List (Int × Int)) : PyData := .tuple (rs.map pairD)
section
variable {K : PySem.W.Frag} {H H' : Hp} {D : Addr} {kvs : List (Key × V)}
/-- all but the dict at D stays -/
def Bar (D : Addr) (H H' : Hp) : Prop := ∀ a o, a ≠ D → H a = some o → H' a = some o
theorem Bar.refl (D : Addr) (H : Hp) : Bar D H H := fun _ _ _ h => h
theorem Bar.trans {H1 H2 : Hp} (a : Bar D H H1) (b : Bar D H1 H2) : Bar D H H2 := fun x o n h => b x o n (a x o n h)
theorem Bar.ex (e : Ex H H') : Bar D H H' := fun x o _ h => e x o h
theorem Bar.put (e : Bar D H H') {o : HO} : Bar D H (upd H' D o) := fun x u n h => by
  rw [upd_ne n]
  exact e x u n h
theorem Bar.exOf {H0 : Hp} (e : Bar D H H') (h0 : Ex H0 H) (hD : H0 D = none) : Ex H0 H' := fun a o h => e a o (fun z => by
  subst z
  rw [hD] at h
  cases h) (h0 a o h)
theorem bar_rd {a : Addr} {u : HO} (hD : H D = some (.dK kvs)) (e : Bar D H H') (hu : ∀ kvs, u ≠ .dK kvs) (hf : ∀ o kvs', HO.frz o u ≠ .dK kvs') (h : Rd H a u) : Rd H' a u := by
  rcases h with h | ⟨o, h⟩
  · exact .inl (e a _ (fun z => by
      subst z
      rw [hD] at h
      exact hu _ (Option.some.inj h).symm) h)
  · exact .inr ⟨o, e a _ (fun z => by
      subst z
      rw [hD] at h
      cases h) h⟩
theorem bar_t {a : Addr} {xs : List V} (hD : H D = some (.dK kvs)) (e : Bar D H H') (h : SqT K H a xs) : SqT K H' a xs := by
  rcases h with h | h
  · exact .inl (bar_rd hD e (fun _ z => nomatch z) (fun _ _ z => nomatch z) h)
  · exact .inr h
theorem bar_l {a : Addr} {xs : List V} (hD : H D = some (.dK kvs)) (e : Bar D H H') (h : SqL K H a xs) : SqL K H' a xs := by
  rcases h with h | h
  · exact .inl (bar_rd hD e (fun _ z => nomatch z) (fun _ _ z => nomatch z) h)
  · exact .inr h
mutual
theorem dp_bar (hD : H D = some (.dK kvs)) (e : Bar D H H') : ∀ (d : PyData) (v : V), Dp K H v d → Dp K H' v d
  | _, _, .non => .non
  | _, _, .bl b => .bl b
  | _, _, .int i => .int i
  | _, _, .str x => .str x
  | _, _, .lst h r => .lst (bar_l hD e h) (dps_bar hD e _ _ r)
  | _, _, .tup h r => .tup (bar_t hD e h) (dps_bar hD e _ _ r)
theorem dps_bar (hD : H D = some (.dK kvs)) (e : Bar D H H') : ∀ (ds : List PyData) (vs : List V), DpAll K H vs ds → DpAll K H' vs ds
  | _, _, .nil => .nil
  | _, _, .cons h r => .cons (dp_bar hD e _ _ h) (dps_bar hD e _ _ r)
end
/-- a table told by the program: a tuple without a dict, of pairs -/
def TP (K : PySem.W.Frag) (H : Hp) (p : Addr) (rs : List (Int × Int)) : Prop := ∃ xs, PT H p xs ∧ DpAll K H xs (rs.map pairD)
theorem TP.same {p : Addr} {rs : List (Int × Int)} (h : TP K H p rs) (e : Same H H') : TP K H' p rs := let ⟨xs, a, b⟩ := h; ⟨xs, a.same e, dps_same e _ _ b⟩
theorem TP.dp {p : Addr} {rs : List (Int × Int)} (h : TP K H p rs) : Dp K H (.ref p) (rowsD rs) := let ⟨_, a, b⟩ := h; .tup a.st b
theorem pairs_dp : ∀ {rs : List (Int × Int)} {xs : List V}, DpAll K H xs (rs.map pairD) → ∃ ps : List Addr, xs = ps.map V.ref ∧ Paired (fun p (kv : Key × V) => SqT K H p [kV kv.1, kv.2]) ps (rs.map fun r => ((Sum.inl r.1 : Key), V.int r.2))
  | [], _, h => by
    cases h
    exact ⟨[], rfl, .nil⟩
  | r :: rs, xs, h => by
    rw [List.map_cons] at h
    cases h with
    | cons a t =>
      obtain ⟨ps, rfl, p⟩ := pairs_dp t
      unfold pairD at a
      cases a with
      | tup hs hh =>
        cases hh with
        | cons h1 t1 =>
          cases t1 with
          | cons h2 t2 =>
            cases t2
            cases h1
            cases h2
            exact ⟨_ :: ps, rfl, .cons hs p⟩
theorem merge_rows {ks : List Int} : ∀ (rs : List (Int × Int)) (kvs : List (Key × V)) (f : Int → Option Int), (∀ r ∈ rs, r.1 ∈ ks) → DI ks kvs f → DI ks (mergeK kvs (rs.map fun r => ((Sum.inl r.1 : Key), V.int r.2))) (appl f (rs.map fun r => (r.1, some r.2)))
  | [], _, _, _, h => h
  | r :: rs, kvs, f, hk, h => merge_rows rs (putK kvs (.inl r.1) (.int r.2)) (fset f r.1 (some r.2)) (fun r' m => hk r' (List.mem_cons_of_mem _ m)) (h.put (hk r List.mem_cons_self))
end
/-- the changes of an entry -/
def spChsOf (K : PySem.W.Frag) : Sp := fun vs H Q _ => ∃ (v : V) (d : PyData) (ks : List Int), vs = [v] ∧ Dp K H v d ∧ goodEn ks d = true ∧ ∀ (q : Addr) (us : List V) (H' : Hp), Ex H H' → SqT K H' q us → DpAll K H' us (chsD d) → Q (.ref q) H'
/-- a good log at l -/
structure LogAt (K : PySem.W.Frag) (H : Hp) (l : Addr) (ks : List Int) (ds : List PyData) : Prop where
  ex : ∃ us, SqL K H l us ∧ DpAll K H us ds
  good : ∀ d ∈ ds, goodEn ks d = true
theorem LogAt.same {K : PySem.W.Frag} {H H' : Hp} {l : Addr} {ks : List Int} {ds : List PyData} (h : LogAt K H l ks ds) (e : Same H H') : LogAt K H' l ks ds := ⟨let ⟨us, a, b⟩ := h.ex; ⟨us, Evl.ex_l e a, dps_same e _ _ b⟩, h.good⟩
/-- the entries from place lo up to place hi, done -/
def spCarry (K : PySem.W.Frag) : Sp := fun vs H Q _ => ∃ (D l : Addr) (ks : List Int) (kvs : List (Key × V)) (f : Int → Option Int) (ds : List PyData) (lo hi : Nat), vs = [.ref D, .ref l, .int (lo : Int), .int (hi : Int)] ∧ H D = some (.dK kvs) ∧ DI ks kvs f ∧ ks.length < 64 ∧ LogAt K H l ks ds ∧ lo ≤ hi ∧
  ∀ kvs' H', Bar D H H' → H' D = some (.dK kvs') → DI ks kvs' (appl f (lgD ((ds.drop lo).take (hi - lo)))) → Q .non H'
/-- the rows behind so many entries -/
def spRowsAt (K : PySem.W.Frag) : Sp := fun vs H Q _ => ∃ (v : V) (rs : List (Int × Int)) (l : Addr) (ks : List Int) (ds : List PyData) (n : Nat), vs = [v, .ref l, .int (n : Int)] ∧ Dp K H v (rowsD rs) ∧ (∀ r ∈ rs, r.1 ∈ ks) ∧ ks.length < 64 ∧ LogAt K H l ks ds ∧ n ≤ ds.length ∧
  ∀ D kvs H', H D = none → Ex H H' → H' D = some (.dK kvs) → DI ks kvs (appl (fRows rs) (lgD (ds.take n))) → Q (.ref D) H'
def spTabAt (K : PySem.W.Frag) : Sp := fun vs H Q _ => ∃ (v : V) (rs : List (Int × Int)) (l : Addr) (ks : List Int) (ds : List PyData) (n : Nat), vs = [v, .ref l, .int (n : Int)] ∧ Dp K H v (rowsD rs) ∧ (∀ r ∈ rs, r.1 ∈ ks) ∧ ks.length < 64 ∧ LogAt K H l ks ds ∧ n ≤ ds.length ∧
  ∀ p js H', H p = none → Ex H H' → KeysOf (appl (fRows rs) (lgD (ds.take n))) js → (∀ j ∈ js, j ∈ ks) → TP K H' p (rowsOf (appl (fRows rs) (lgD (ds.take n))) js) → Q (.ref p) H'
/-- a place that is one -/
def spPlace (K : PySem.W.Frag) : Sp := fun vs H Q _ => ∃ (l : Addr) (us : List V) (n : Nat), vs = [.ref l, .int (n : Int)] ∧ SqL K H l us ∧ n ≤ us.length ∧ ∀ H', Ex H H' → Q .non H'
/-- the keys told -/
def spChanged (K : PySem.W.Frag) : Sp := fun vs H Q _ => ∃ (l : Addr) (ks : List Int) (ds : List PyData) (lo hi : Nat), vs = [.ref l, .int (lo : Int), .int (hi : Int)] ∧ ks.length < 64 ∧ LogAt K H l ks ds ∧ lo ≤ hi ∧ hi ≤ ds.length ∧
  ∀ p (js : List Int) H', H p = none → Ex H H' → H' p = some (.lst (js.map V.int)) → js.Pairwise (· < ·) → (∀ k, k ∈ js ↔ ∃ c ∈ lgD ((ds.drop lo).take (hi - lo)), c.1 = k) → Q (.ref p) H'
end Tc
/-! tuples of leaves and tuples stay while a list is changed -/
namespace Tc
open PySem L2 Evl
def nl : Nat → PyData → Bool
  | _, .list _ => false
  | 0, .tuple _ => false
  | n + 1, .tuple ds => ds.all (nl n)
  | _, _ => true
section
variable {K : PySem.W.Frag} {H H' : Hp} {b : Addr} {bs : List V}
theorem lst_t {a : Addr} {xs : List V} (hb : H b = some (.lst bs)) (e : Bar b H H') (h : SqT K H a xs) : SqT K H' a xs := by
  rcases h with (h | ⟨o, h⟩) | h
  · exact .inl (.inl (e a _ (fun z => by
      subst z
      rw [hb] at h
      cases h) h))
  · exact .inl (.inr ⟨o, e a _ (fun z => by
      subst z
      rw [hb] at h
      cases h) h⟩)
  · exact .inr h
theorem lst_l {a : Addr} {xs : List V} (e : Bar b H H') (ha : a ≠ b) (h : SqL K H a xs) : SqL K H' a xs := by
  rcases h with (h | ⟨o, h⟩) | h
  · exact .inl (.inl (e a _ ha h))
  · exact .inl (.inr ⟨o, e a _ ha h⟩)
  · exact .inr h
theorem dps_each : ∀ {ds : List PyData} {vs : List V}, (∀ d ∈ ds, ∀ v, Dp K H v d → Dp K H' v d) → DpAll K H vs ds → DpAll K H' vs ds
  | _, _, _, .nil => .nil
  | _, _, f, .cons h t => .cons (f _ List.mem_cons_self _ h) (dps_each (fun d m => f d (List.mem_cons_of_mem _ m)) t)
theorem dp_nl (hb : H b = some (.lst bs)) (e : Bar b H H') : ∀ (n : Nat) (d : PyData) (v : V), nl n d = true → Dp K H v d → Dp K H' v d
  | 0, d, v, g, h => by
    cases h with
    | non => exact .non
    | bl b => exact .bl b
    | int i => exact .int i
    | str x => exact .str x
    | lst => cases g
    | tup => cases g
  | n + 1, d, v, g, h => by
    cases h with
    | non => exact .non
    | bl b => exact .bl b
    | int i => exact .int i
    | str x => exact .str x
    | lst => cases g
    | tup hs r => exact .tup (lst_t hb e hs) (dps_each (fun d m v => dp_nl hb e n d v (List.all_eq_true.mp g d m)) r)
theorem nl_rows (rs : List (Int × Int)) : nl 2 (rowsD rs) = true := by
  show (rs.map pairD).all (nl 1) = true
  rw [List.all_eq_true]
  intro d m
  obtain ⟨r, _, rfl⟩ := List.mem_map.mp m
  rfl
theorem nl_ch {ks : List Int} {d : PyData} (h : goodCh ks d = true) : nl 1 d = true := by
  unfold goodCh at h
  split at h
  · rfl
  · rfl
  · cases h
theorem nl_en {ks : List Int} {d : PyData} (h : goodEn ks d = true) : nl 3 d = true := by
  unfold goodEn at h
  split at h
  · rename_i s cs
    rw [Bool.and_eq_true, List.all_eq_true] at h
    show (nl 2 (.str s) && (nl 2 (.tuple cs) && true)) = true
    rw [show nl 2 (.tuple cs) = true from List.all_eq_true.mpr fun d m => nl_ch (h.2 d m)]
    rfl
  · rfl
  · cases h
theorem Fr.bar (f : Fr b H H') : Bar b H H' := fun a o n h => f.at h n
theorem LogAt.bar {l : Addr} {ks : List Int} {ds : List PyData} (h : LogAt K H l ks ds) (hb : H b = some (.lst bs)) (e : Bar b H H') (hl : l ≠ b) : LogAt K H' l ks ds :=
  ⟨let ⟨us, x, y⟩ := h.ex; ⟨us, lst_l e hl x, dps_each (fun d m v => dp_nl hb e 3 d v (nl_en (h.good d m))) y⟩, h.good⟩
theorem dp_rows {v : V} {rs : List (Int × Int)} (h : Dp K H v (rowsD rs)) (hb : H b = some (.lst bs)) (e : Bar b H H') : Dp K H' v (rowsD rs) := dp_nl hb e 2 _ v (nl_rows rs) h
theorem TP.bar {p : Addr} {rs : List (Int × Int)} (h : TP K H p rs) (hb : H b = some (.lst bs)) (e : Bar b H H') : TP K H' p rs := by
  obtain ⟨xs, ⟨o, a, d⟩, r⟩ := h
  exact ⟨xs, ⟨o, e p _ (fun z => by
    subst z
    rw [hb] at a
    cases a) a, d⟩, dps_each (fun d m v => dp_nl hb e 1 d v (by
      obtain ⟨r, _, rfl⟩ := List.mem_map.mp m
      rfl)) r⟩
theorem Bag.lst (h : Bag H b) : ∃ bs, H b = some (.lst bs) := let ⟨_, _, e, _⟩ := h; ⟨_, e⟩
end
/-- rows of a table drawn -/
def goodRow (ks : List Int) : PyData → Bool
  | .tuple [.int k, .int w] => decide (k ∈ ks) && decide (0 ≤ w ∧ w < 1000)
  | _ => false
theorem good_rows {ks : List Int} : ∀ {ds : List PyData}, (∀ d ∈ ds, goodRow ks d = true) → ∃ rs : List (Int × Int), ds = rs.map pairD ∧ (∀ r ∈ rs, r.1 ∈ ks) ∧ ∀ r ∈ rs, 0 ≤ r.2 ∧ r.2 < 1000
  | [], _ => ⟨[], rfl, fun r m => (by cases m), fun r m => by cases m⟩
  | d :: ds, h => by
    obtain ⟨rs, e, hr, hw⟩ := good_rows fun d' m => h d' (List.mem_cons_of_mem _ m)
    have hd := h d List.mem_cons_self
    unfold goodRow at hd
    split at hd
    · rename_i k w
      rw [Bool.and_eq_true] at hd
      refine ⟨(k, w) :: rs, by rw [e]; rfl, fun r m => ?_, fun r m => ?_⟩
      · rcases List.mem_cons.mp m with z | z
        · rw [z]
          exact of_decide_eq_true hd.1
        · exact hr r z
      · rcases List.mem_cons.mp m with z | z
        · rw [z]
          exact of_decide_eq_true hd.2
        · exact hw r z
    · cases hd
def spTabQ (K : PySem.W.Frag) : Sp := fun vs H Q _ => ∃ (b l : Addr) (ks : List Int), vs = [.ref b, .ref l] ∧ Bag H b ∧ KeysAt b H l ks ∧ ∀ v rs H', Fr b H H' → Dp K H' v (rowsD rs) → (∀ r ∈ rs, r.1 ∈ ks) → Q v H'
def spKeysQ : Sp := fun vs H Q _ => ∃ b : Addr, vs = [.ref b] ∧ Bag H b ∧ ∀ l (ks : List Int) H', Fr b H H' → KeysAt b H' l ks → ks.length < 64 → Q (.ref l) H'
/-- drawn changes, an entry, a log, their keys among ks -/
def spChsQ (K : PySem.W.Frag) : Sp := fun vs H Q _ => ∃ (b l : Addr) (ks : List Int) (m : Int) (S : Addr → Prop), vs = [.ref b, .ref l, .int m] ∧ Bag H b ∧ Sok S b H ∧ KeysAt b H l ks ∧ 1 ≤ m ∧ m ≤ 6 ∧
  ∀ v ds H', Fr b H H' → Dp K (cut S H') v (.tuple ds) → (∀ d ∈ ds, goodCh ks d = true) → Q v H'
def spEntQ (K : PySem.W.Frag) : Sp := fun vs H Q _ => ∃ (b l : Addr) (ks : List Int) (S : Addr → Prop), vs = [.ref b, .ref l] ∧ Bag H b ∧ Sok S b H ∧ KeysAt b H l ks ∧ ∀ v d H', Fr b H H' → Dp K (cut S H') v d → goodEn ks d = true → Q v H'
def spLgQ (K : PySem.W.Frag) : Sp := fun vs H Q _ => ∃ (b l : Addr) (ks : List Int) (m : Int), vs = [.ref b, .ref l, .int m] ∧ Bag H b ∧ KeysAt b H l ks ∧ 0 ≤ m ∧ m ≤ 100 ∧ ∀ p us ds H', H p = none → p ≠ b → Fr b H H' → H' p = some (.lst us) → DpAll K H' us ds → (∀ d ∈ ds, goodEn ks d = true) → (ds.length : Int) ≤ m → Q (.ref p) H'
theorem gq_drop {ks : List Int} {k : Int} (h : k ∈ ks) : goodCh ks (.tuple [.str "drop", .int k]) = true := by
  show (decide ((Str.ofString "drop") = "drop") && decide (k ∈ ks)) = true
  rw [decide_eq_true h]
  decide
theorem gq_put {ks : List Int} {k w : Int} (h : k ∈ ks) (hw : 0 ≤ w ∧ w < 1000) : goodCh ks (.tuple [.str "put", .int k, .int w]) = true := by
  show (decide ((Str.ofString "put") = "put") && (decide (k ∈ ks) && decide (0 ≤ w ∧ w < 1000))) = true
  rw [decide_eq_true h, decide_eq_true hw]
  decide
theorem gq_mark {ks : List Int} {s : Str} {i j : Int} (hs : s = "low" ∨ s = "high") : goodEn ks (.tuple [.str s, .int i, .int j]) = true := by
  show (!decide (s = "group") && PyData.strOk s) = true
  rcases hs with rfl | rfl <;> decide +kernel
theorem gq_group {ks : List Int} {ds : List PyData} (h : ∀ d ∈ ds, goodCh ks d = true) : goodEn ks (.tuple [.str "group", .tuple ds]) = true := by
  show (decide ((Str.ofString "group") = "group") && ds.all (goodCh ks)) = true
  rw [List.all_eq_true.mpr h]
  decide
end Tc
namespace Tc
open PySem L2 Evl
/-- no tuple stands at b -/
def NT (H : Hp) (b : Addr) : Prop := (∀ xs, H b ≠ some (.tup xs)) ∧ ∀ o u, H b ≠ some (.frz o u)
section
variable {K : PySem.W.Frag} {H H' : Hp} {b : Addr}
theorem NT.set {w : World} {S : Int → Bool} {n : Nat} (h : H b = some (SetO w b S n)) : NT H b := by
  refine ⟨fun xs e => ?_, fun o u e => ?_⟩ <;> · rw [h] at e
                                                 cases e
theorem nt_t {a : Addr} {xs : List V} (hb : NT H b) (e : Bar b H H') (h : SqT K H a xs) : SqT K H' a xs := by
  rcases h with (h | ⟨o, h⟩) | h
  · exact .inl (.inl (e a _ (fun z => hb.1 xs (z ▸ h)) h))
  · exact .inl (.inr ⟨o, e a _ (fun z => hb.2 o _ (z ▸ h)) h⟩)
  · exact .inr h
theorem dp_nt (hb : NT H b) (e : Bar b H H') : ∀ (n : Nat) (d : PyData) (v : V), nl n d = true → Dp K H v d → Dp K H' v d
  | 0, d, v, g, h => by
    cases h with
    | non => exact .non
    | bl b => exact .bl b
    | int i => exact .int i
    | str x => exact .str x
    | lst => cases g
    | tup => cases g
  | n + 1, d, v, g, h => by
    cases h with
    | non => exact .non
    | bl b => exact .bl b
    | int i => exact .int i
    | str x => exact .str x
    | lst => cases g
    | tup hs r => exact .tup (nt_t hb e hs) (dps_each (fun d m v => dp_nt hb e n d v (List.all_eq_true.mp g d m)) r)
/-- the turns of a clause, over whatever gives n items one by one and changes nothing by it -/
theorem sc_turns {J : It} {n : Nat} {H0 : Hp} {Z : Hp → Prop} {B : V → Hp → (Hp → Prop) → Prop} (Pv : Nat → Hp → Prop) (R : Nat → V → Prop) (h0 : Pv 0 H0) (go : ∀ i H, i < n → Pv i H → J.go i H ∧ ∀ x H', J.yld i H x H' → H' = H ∧ R i x) (stop : ∀ H, Pv n H → J.stop n H)
    (hs : ∀ i x H, R i x → Pv i H → B x H (Pv (i + 1))) (hd : ∀ H, Pv n H → Z H) :
    ∃ W : Nat → Nat → Hp → Prop, (∃ m, W 0 m H0) ∧ ∀ i m H, W i m H → (J.stop i H ∧ Z H) ∨ (J.go i H ∧ ∃ Nx : Hp → Prop, (∀ H', Nx H' → ∃ m', m' < m ∧ W (i + 1) m' H') ∧ ∀ x H', J.yld i H x H' → B x H' Nx) := by
  refine ⟨fun i m H => i + m = n ∧ Pv i H, ⟨n, Nat.zero_add n, h0⟩, fun i m H ⟨e, p⟩ => ?_⟩
  cases m with
  | zero =>
    obtain rfl : i = n := e
    exact .inl ⟨stop H p, hd H p⟩
  | succ m =>
    have ⟨g, y⟩ := go i H (by omega) p
    refine .inr ⟨g, Pv (i + 1), fun H' p' => ⟨m, Nat.lt_succ_self m, by omega, p'⟩, fun x H' yx => ?_⟩
    obtain ⟨rfl, r⟩ := y x H' yx
    exact hs i x _ r p
theorem sc_list {a : Addr} {xs : List V} {H0 : Hp} {Z : Hp → Prop} {B : V → Hp → (Hp → Prop) → Prop} (Pv : Nat → Hp → Prop) (h0 : Pv 0 H0) (hl : ∀ i H, i ≤ xs.length → Pv i H → SqL K H a xs) (hs : ∀ i x H, xs[i]? = some x → Pv i H → B x H (Pv (i + 1))) (hd : ∀ H, Pv xs.length H → Z H) :
    ∃ W : Nat → Nat → Hp → Prop, (∃ m, W 0 m H0) ∧ ∀ i m H, W i m H → ((Itl K a).stop i H ∧ Z H) ∨ ((Itl K a).go i H ∧ ∃ Nx : Hp → Prop, (∀ H', Nx H' → ∃ m', m' < m ∧ W (i + 1) m' H') ∧ ∀ x H', (Itl K a).yld i H x H' → B x H' Nx) :=
  sc_turns Pv (fun i x => xs[i]? = some x) h0 (fun i H lt p => ⟨⟨xs, xs[i], hl i H (Nat.le_of_lt lt) p, List.getElem?_eq_getElem lt⟩, fun x H' y => ⟨y.1, y.2 xs (hl i H (Nat.le_of_lt lt) p)⟩⟩) (fun H p => ⟨xs, hl _ H (Nat.le_refl _) p, Nat.le_refl _⟩) hs hd
theorem sc_tup {a : Addr} {xs : List V} {H0 : Hp} {Z : Hp → Prop} {B : V → Hp → (Hp → Prop) → Prop} (Pv : Nat → Hp → Prop) (h0 : Pv 0 H0) (hl : ∀ i H, i ≤ xs.length → Pv i H → SqT K H a xs) (hs : ∀ i x H, xs[i]? = some x → Pv i H → B x H (Pv (i + 1))) (hd : ∀ H, Pv xs.length H → Z H) :
    ∃ W : Nat → Nat → Hp → Prop, (∃ m, W 0 m H0) ∧ ∀ i m H, W i m H → ((Itt K a).stop i H ∧ Z H) ∨ ((Itt K a).go i H ∧ ∃ Nx : Hp → Prop, (∀ H', Nx H' → ∃ m', m' < m ∧ W (i + 1) m' H') ∧ ∀ x H', (Itt K a).yld i H x H' → B x H' Nx) :=
  sc_turns Pv (fun i x => xs[i]? = some x) h0 (fun i H lt p => ⟨⟨xs, xs[i], hl i H (Nat.le_of_lt lt) p, List.getElem?_eq_getElem lt⟩, fun x H' y => ⟨y.1, y.2 xs (hl i H (Nat.le_of_lt lt) p)⟩⟩) (fun H p => ⟨xs, hl _ H (Nat.le_refl _) p, Nat.le_refl _⟩) hs hd
end
/-- a set that holds the ints of l, each once -/
def Has (w : World) (D : Addr) (H : Hp) (l : List Int) : Prop := H D = some (SetO w D (fun j => decide (j ∈ l)) l.length) ∧ l.Nodup
theorem Has.more {w : World} {D : Addr} {H : Hp} {l : List Int} (h : Has w D H l) (k : Int) : ∃ l', (∀ j, j ∈ l' ↔ j ∈ l ∨ j = k) ∧ ∀ H', Has w D (upd H' D (setMore w D (fun j => decide (j ∈ l)) l.length k)) l' := by
  by_cases m : k ∈ l
  · refine ⟨l, fun j => ⟨.inl, fun z => z.elim id fun e => e ▸ m⟩, fun H' => ⟨?_, h.2⟩⟩
    rw [upd_same]
    have e1 : (fun j => decide (j ∈ l) || decide (j = k)) = fun j => decide (j ∈ l) := by
      funext j
      by_cases z : j = k
      · subst z
        simp [m]
      · simp [z]
    unfold setMore
    rw [e1, if_pos (decide_eq_true m)]
  · refine ⟨k :: l, fun j => by rw [List.mem_cons]; exact Or.comm, fun H' => ⟨?_, List.nodup_cons.mpr ⟨m, h.2⟩⟩⟩
    rw [upd_same]
    have e1 : (fun j => decide (j ∈ l) || decide (j = k)) = fun j => decide (j ∈ k :: l) := by
      funext j
      rw [Bool.eq_iff_iff, Bool.or_eq_true, decide_eq_true_eq, decide_eq_true_eq, decide_eq_true_eq, List.mem_cons]
      exact Or.comm
    unfold setMore
    rw [e1, if_neg (by simp [m]), List.length_cons]
end Tc
/-! enumerate(tuple), enumerate(tuple, start=k) -/
namespace Tc
open PySem PySem.Spec PyProof.Rows L2
/-- the tuple at a, each item in a new pair with its number, from k on -/
def Itc (K : PySem.W.Frag) (a : Addr) (k : Int) : It :=
  ⟨fun i H => ∃ (xs : List V) (x : V), SqT K H a xs ∧ xs[i]? = some x, fun i H v H' => ∃ (T : Addr) (x : V), v = .ref T ∧ H T = none ∧ H' = upd H T (.tup [.int (k + (i : Int)), x]) ∧ ∀ xs, SqT K H a xs → xs[i]? = some x,
    fun i H => ∃ xs : List V, SqT K H a xs ∧ xs.length = i⟩
/-- how the counter at e and the tuple's iterator at it stand -/
def Cnt (a e it : Addr) (k : Int) (i : Nat) (h : Heap) : Prop := (∃ old, IsEnum h e it (k + (i : Int)) old) ∧ h.IsTupleIter it a i ∧ e ≠ it
theorem Cnt.apart {a e it : Addr} {k : Int} {i : Nat} {h : Heap} {items : Array Value} (c : Cnt a e it k i h) (t : IsTup h a items) : a ≠ it ∧ e ∉ [it, a] := by
  obtain ⟨⟨old, he⟩, ⟨o, ho, hc, _⟩, ne⟩ := c
  obtain ⟨p, hp, pc, _⟩ := t
  refine ⟨fun z => ?_, fun m => ?_⟩
  · subst z
    cases hp.symm.trans ho
    rw [pc] at hc
    exact absurd hc (by decide)
  · rcases List.mem_cons.mp m with z | z
    · exact ne z
    · obtain rfl := List.mem_singleton.mp z
      cases hp.symm.trans he
      exact absurd (show Value.type "enumerate" = Value.type "tuple" from pc) (by decide)
theorem turn_count {P : Program} {w : World} {K : PySem.W.Frag} {elts : List Expr} {kk : Nat} {tpos : Pos} (a e it : Addr) (k : Int) : Turn P w K (.Tuple elts kk tpos) (Itc K a k) [e, it] e (Cnt a e it k) where
  mem := List.mem_cons_self
  obj := fun i h ⟨⟨old, he⟩, ⟨o, ho, _, hd⟩, _⟩ b m => by
    rcases List.mem_cons.mp m with rfl | m
    · exact ⟨_, he, fun v z => nomatch z⟩
    · obtain rfl := List.mem_singleton.mp m
      exact ⟨o, ho, fun v z => by rw [hd] at z; cases z⟩
  keep := fun i h h' ⟨⟨old, he⟩, hi, ne⟩ kp => ⟨⟨old, kp e (by simp) _ he⟩, hi.at fun o z => kp it (by simp) o z, ne⟩
  item := by
    intro X hP hw hK hc i pins s σ H E I fp c ⟨xs, x, hq, hx⟩
    subst hP hw hK
    obtain ⟨its, rv, tup, _⟩ := I.tuple hq
    obtain ⟨u, hu, ru⟩ := rv.get hx
    have ⟨ai, ef⟩ := c.apart tup
    obtain ⟨⟨old, he⟩, hit, ne⟩ := id c
    have lt : i < its.toArray.size := by
      have := (List.getElem?_eq_some_iff.mp hu).1
      simpa using this
    have le : e < s.heap.objs.size := Heap.lt_size he
    have li : it < s.heap.objs.size := let ⟨_, z, _⟩ := hit; Heap.lt_size z
    refine wpAny_pyNext_enum_itemC (Draws.tuple (A := X.A.in1) (I.ok.hd hc) it a ai its.toArray) he ⟨hit, tup⟩ lt ne ef fun y h' tk hy out st new size kp => ⟨_, rfl, ?_⟩
    obtain rfl : u = y := Option.some.inj (hu.symm.trans (by simpa using hy))
    refine wpAny_letOwnedTupleGo_enum (s := { s with heap := h', toks := tk + 1 }) out fun h'' he' but => ?_
    have new2 := (but.2 _ (Nat.ne_of_gt le)).trans new
    have inv : Inv X pins σ (upd H s.heap.objs.size (.tup [.int (k + (i : Int)), x])) { s with heap := h'', toks := tk + 1 } :=
      I.turnedNew (ch := [e, it]) (fun b o n z => (but.2 b fun q => n (by simp [q])).trans (kp b o (fun q => n (by simp [q])) (fun q => n (by simp [q])) z)) fp (Nat.le_refl _) ⟨by show 2 ≤ sizeLine; decide, [.int (k + (i : Int)) tk, u], .cons ⟨_, rfl⟩ (.cons ru .nil), ⟨_, new2, rfl, _, rfl⟩⟩
    refine ⟨.ref s.heap.objs.size, _, inv, rfl, ⟨_, x, rfl, I.hok.fresh (Nat.le_refl _), rfl, fun ys hy => I.tuple_inj hy hq ▸ hx⟩, ⟨⟨u, ?_⟩, st.1.at fun o z => (but.2 it (Ne.symm ne)).trans z, ne⟩, fun b m => ?_⟩
    · rw [show k + ((i + 1 : Nat) : Int) = k + (i : Int) + 1 by omega]
      exact he'
    · have lb : b < s.heap.objs.size := by
        rcases List.mem_cons.mp m with rfl | m
        · exact le
        · exact List.mem_singleton.mp m ▸ li
      exact (upd_ne (Nat.ne_of_lt lb)).trans (fp b m).1
  done := by
    intro X hP hw hK hc i pins s σ H E I fp c ⟨xs, hq, hl⟩
    subst hP hw hK
    obtain ⟨its, rv, tup, _⟩ := I.tuple hq
    obtain ⟨g0, g1, g2, g3, g4, g5⟩ := fp it (by simp)
    have n : its.toArray.size = i := by rw [List.size_toArray, ← rv.length]; exact hl
    refine wpAny_pyNext_enum_endD (Draws.tuple (A := X.A.in1) (I.ok.hd hc) it a (c.apart tup).1 its.toArray) c.1.choose_spec ⟨n.symm ▸ c.2.1, tup⟩ fun h' but => ⟨rfl, I.turned (t' := s.toks) (fun b o nb z => but b o nb z) g0 g1 g3 g4 g5⟩
  self := fun A i s Q E ⟨⟨_, he⟩, _⟩ h => wpAny_pyIter_enum he h
section
variable {M : Model} {A : Around} {E : Value → Shared → Prop} {s : Shared} {env : Env}
/-- a built-in class called with one thing and more by their names -/
theorem type_kw {pos : Pos} {T : String} {x : Expr} {kws : List Keyword} {Q : Value → Shared → Prop} (one : backTo pos (starEach [x] env) = (false, eval x env) :: backTo pos (starEach [] env)) (named : (backToKw pos (keywordEach kws env)).all (·.1.isSome) = true) (no : (backToKw pos (keywordEach kws env)).any (·.1.isNone) = false)
    (plain : (backTo pos (starEach [x] env)).any (·.1) = false) (h : wpAny M A (spliced (backTo pos (starEach [x] env))) (fun vs s1 => wpAny M A (evalAll ((backToKw pos (keywordEach kws env)).map (·.2))) (fun ws s2 => wpAny M A (call (.type T) vs (((backToKw pos (keywordEach kws env)).filterMap (·.1)).zip ws)) Q E s2) E s1) E s) :
    wpAny M A (callWith pos (.type T) [] (backTo pos (starEach [x] env)) (backToKw pos (keywordEach kws env))) Q E s := by
  have args : wpAny M A (evalArgs (.type T) true (backTo pos (starEach [x] env)) (backToKw pos (keywordEach kws env))) (fun a s1 => wpAny M A (call (.type T) a.pos a.kw) Q E s1) E s := by
    rw [one] at h ⊢
    exact evalArgs_kwB named h
  unfold callWith
  refine wpAny_bind (wpAny_holding (wpAny_mono args (fun a s1 h1 => wpAny_bind (wpAny_standAt ?_)) fun _ _ z => z))
  simp only [plain, no, Bool.or_false]
  refine wpAny_bind (wpAny_pure ?_)
  exact wpAny_bind (wpAny_mono (show wpAny M A (call (.type T) ([] ++ a.pos) a.kw) Q E s1 from h1) (fun r s2 done => wpAny_bind (wpAny_holding (wpAny_point (wpAny_pure done)))) fun _ _ z => z)
end
section
variable {X : Cx} {e : Expr} {ta tk : TA} {p pos tpos : Pos} {elts : List Expr} {kk : Nat} {kws : List Keyword}
/-- what stands behind the making of a counter -/
theorem count_on {pins : List (Addr × Obj)} {σ : L2.St} {H : Hp} {s : Shared} {R : It → Hp → Prop} {a : Addr} {k : Int} {h' : Heap} (I : Inv X pins σ H s) (he : IsEnum h' (s.heap.objs.size + 1) s.heap.objs.size k .none)
    (hit : h'.get? s.heap.objs.size = some { cls := .type "tuple_iterator", data := .fields #[.ref a, .int 0 0] }) (keep : ∀ b o, s.heap.get? b = some o → h'.get? b = some o) (q : R (Itc X.K a k) H) :
    wpAny (model X.prog X.w) X.A (pyIter (.ref (s.heap.objs.size + 1))) (PIE X pins σ (.Tuple elts kk tpos) R) X.xe { s with heap := h' } := by
  refine wpAny_pyIter_enum he ⟨_, [s.heap.objs.size + 1, s.heap.objs.size], _, _, H, rfl, I.kept (t' := s.toks) keep, turn_count a _ _ k, ⟨⟨.none, ?_⟩, ⟨_, hit, rfl, rfl⟩, Nat.succ_ne_self _⟩, fun b m => ?_, q⟩
  · rw [show k + ((0 : Nat) : Int) = k from Int.add_zero k]
    exact he
  · have far : s.heap.objs.size ≤ b := by
      rcases List.mem_cons.mp m with rfl | m
      · exact Nat.le_succ _
      · exact Nat.le_of_eq (List.mem_singleton.mp m).symm
    exact I.fpOk far (I.hok.fresh far)
def iCountK (K : PySem.W.Frag) (ta tk : TA) : TI := fun σ H R => ta σ H fun vs H1 => tk σ H1 fun zs H2 => ∃ (a : Addr) (xs : List V) (k : Int), vs = [.ref a] ∧ zs = [.int k] ∧ SqT K H2 a xs ∧ -1000000 ≤ k ∧ k ≤ 1000000 ∧ R (Itc K a k) H2
/-- for n, x in enumerate(tuple, start=k) -/
theorem pi_countK (hg : Gl X "enumerate") (hm : X.mg "enumerate" = none) (ha : PA X [e] ta) (hk : PK X kws tk) (hks : (backToKw pos (keywordEach kws X.env)).filterMap (·.1) = [Str.ofString "start"] := by rfl) (hall : (backToKw pos (keywordEach kws X.env)).all (·.1.isSome) = true := by rfl)
    (hnone : (backToKw pos (keywordEach kws X.env)).any (·.1.isNone) = false := by rfl) (hs : backTo pos (starEach [e] X.env) = (false, eval e X.env) :: backTo pos (starEach [] X.env) := by rfl) (hpl : (backTo pos (starEach [e] X.env)).any (·.1) = false := by rfl) :
    PI X (.Tuple elts kk tpos) (.Call (.Name "enumerate" p) [e] kws pos) (iCountK X.K ta tk) := by
  have n1 : (Str.ofString "enumerate") ≠ "__name__" := by decide
  have n2 : (Str.ofString "enumerate" == ("__debug__" : Str)) = false := by decide
  refine ⟨fun pins s σ H R I h => ?_⟩
  refine wpAny_Call_Name_kw ?_
  refine ld_blt I hg hm boot_enumerate ?_ n1 n2
  refine type_kw hs hall hnone hpl (thn (ha.run pos pins s σ H (fun vs H1 => tk σ H1 fun zs H2 => ∃ (a : Addr) (xs : List V) (k : Int), vs = [.ref a] ∧ zs = [.int k] ∧ SqT X.K H2 a xs ∧ -1000000 ≤ k ∧ k ≤ 1000000 ∧ R (Itc X.K a k) H2) I h) fun us s1 c1 => ?_)
  obtain ⟨vs, H1, I1, r1, q1⟩ := c1
  refine thn (hk.run pos pins s1 σ H1 _ I1 q1) fun ws s2 c2 => ?_
  obtain ⟨zs, H2, I2, r2, q2⟩ := c2
  obtain ⟨a, xs, k, e1, e2, hq, k0, k1, q⟩ := q2
  subst e1 e2
  rw [hks, Vals.ref1 r1]
  obtain ⟨u, rfl, ru⟩ := vals1 r2
  obtain ⟨t, rfl⟩ := ru
  obtain ⟨its, _, tup, _⟩ := I2.tuple hq
  exact enum_begins_start (begins_tuple a its.toArray) tup (by omega) (by omega) fun h' he hit _ keep => count_on I2 he hit keep q
end
end Tc
/-! enumerate(tuple) from 0 -/
namespace Tc
open PySem PySem.Spec PyProof.Rows L2
set_option maxHeartbeats 2000000 in
theorem new_count (t : Addr) (items : Array Value) :
    Meets (Builtin.«enumerate.__new__» ⟨[.type "enumerate", .ref t], []⟩) (fun _ R s => s.heap.IsTuple t items ∧ R (.ok (.ret (.ref (s.heap.objs.size + 1))))
      { s with heap := (s.heap.push { cls := .type "tuple_iterator", data := .fields #[.ref t, .int 0 0] }).push { cls := .type "enumerate", data := .fields #[.none, .bool false, .ref s.heap.objs.size, rawInt 0, .none, .none] } }) :=
  .of_wp fun prog w A R s ⟨tup, fin⟩ => by
    have size : (s.heap.push { cls := .type "tuple_iterator", data := .fields #[.ref t, .int 0 0] }).objs.size = s.heap.objs.size + 1 := Heap.size_push ..
    rw [← size] at fin
    obtain ⟨hp, g, d, tk, os⟩ := s
    have own := sub_enumerate
    have iter : ∀ {A : Around} {E : Value → Shared → Prop} {Q : Value → Shared → Prop}, Q (.ref hp.objs.size) ⟨hp.push { cls := .type "tuple_iterator", data := .fields #[.ref t, .int 0 0] }, g, d, tk, os⟩ → wpAny (model prog w) A (pyIter (.ref t)) Q E ⟨hp, g, d, tk, os⟩ := fun q => (begins_tuple t items).iter _ _ _ _ ⟨hp, g, d, tk, os⟩ _ tup q
    wp_walk using iter
    refine wpAny_stack_any fun st => wpAny_pure ?_
    split
    · rename_i c _ _ _ _ _
      cases (c == Value.type "enumerate") <;> (wp_walk using iter; exact ⟨_, rfl, fin⟩)
    · wp_walk using iter
      exact ⟨_, rfl, fin⟩
theorem call_count {prog : Program} {w : World} {A : Around} {E : Value → Shared → Prop} {s : Shared} {t : Addr} {items : Array Value} {Q : Value → Shared → Prop} (tup : s.heap.IsTuple t items)
    (fin : ∀ h', IsEnum h' (s.heap.objs.size + 1) s.heap.objs.size 0 .none → h'.get? s.heap.objs.size = some { cls := .type "tuple_iterator", data := .fields #[.ref t, .int 0 0] } → (∀ b o, s.heap.get? b = some o → h'.get? b = some o) → Q (.ref (s.heap.objs.size + 1)) { s with heap := h' }) :
    wpAny (model prog w) A (call (.type "enumerate") [.ref t]) Q E s := by
  refine callType_new F.called_enumerate (by decide) (F.typeCall_enumerate_1 _) (F.newCall_enumerate_1 _) (fun obj => F.args_object_init_2 obj _) F.entry_enumerate_new (new_count t items) ⟨tup, ?_⟩
  have size : (s.heap.push { cls := .type "tuple_iterator", data := .fields #[.ref t, .int 0 0] }).objs.size = s.heap.objs.size + 1 := Heap.size_push ..
  generalize hp : s.heap.push { cls := .type "tuple_iterator", data := .fields #[.ref t, .int 0 0] } = h1 at size
  have made : IsEnum (h1.push { cls := .type "enumerate", data := .fields #[.none, .bool false, .ref s.heap.objs.size, rawInt 0, .none, .none] }) (s.heap.objs.size + 1) s.heap.objs.size 0 .none := size ▸ Heap.get?_push_size _ rfl
  exact ⟨⟨_, made, rfl⟩, fin _ made (Heap.get?_push_of_some _ (hp ▸ Heap.get?_push_size _ rfl)) fun b o z => Heap.get?_push_of_some _ (hp ▸ Heap.get?_push_of_some _ z)⟩
section
variable {X : Cx} {e : Expr} {ta : TA} {p pos tpos : Pos} {elts : List Expr} {kk : Nat}
def iCount (K : PySem.W.Frag) (ta : TA) : TI := fun σ H R => ta σ H fun vs H1 => ∃ (a : Addr) (xs : List V), vs = [.ref a] ∧ SqT K H1 a xs ∧ R (Itc K a 0) H1
/-- for n, x in enumerate(tuple) -/
theorem pi_count (hg : Gl X "enumerate") (hm : X.mg "enumerate" = none) (ha : PA X [e] ta) (hs : starEach [e] X.env = [(false, eval e X.env)] := by rfl) : PI X (.Tuple elts kk tpos) (.Call (.Name "enumerate" p) [e] [] pos) (iCount X.K ta) := by
  refine ⟨fun pins s σ H R I h => Call_ (ld_blt I hg hm boot_enumerate (callWith_type1 (thn (ha.run pos pins s σ H _ I h) fun us s1 c1 => ?_) hs rfl))⟩
  obtain ⟨vs, H1, I1, r1, a, xs, e1, hq, q⟩ := c1
  subst e1
  rw [Vals.ref1 r1]
  obtain ⟨its, _, tup, _⟩ := I1.tuple hq
  exact call_count tup fun h' he hit keep => count_on I1 he hit keep q
end
end Tc
/-! sorted(tuple of ints) -/
namespace Tc
open PySem PySem.Spec PyProof.Rows L2
def rSortedTI (K : PySem.W.Frag) : List V → Hp → VK → Prop := fun vs H Q => ∃ (a : Addr) (ns : List Int), vs = [V.ref a] ∧ SqT K H a (ns.map V.int) ∧ ∀ (ms : List Int) (p : Addr), ms.Perm ns → ms.Pairwise (· ≤ ·) → H p = none → Q (.ref p) (upd H p (.lst (ms.map V.int)))
set_option maxHeartbeats 4000000 in
theorem cr_sortedTI {X : Cx} : CallR X (.builtin "sorted") (rSortedTI X.K) := by
  intro pins s σ H vs us Q I r ⟨a, ns, e0, hs, q⟩
  subst e0
  rw [Vals.ref1 r]
  obtain ⟨its, rv, ⟨ob, at1, cls, n, dat⟩, fits⟩ := I.tuple hs
  have are := rv.ints
  have size : its.length ≤ sizeLine := rv.length ▸ fits
  refine Calls.call_function_entry kind_sorted plain_sorted entry_sorted (args_sorted1 _) (show wpAny _ _ (Builtin.«sorted» _) _ _ _ from ?_)
  refine wpAny_bind (m := checkCount "sorted" 1 1 _) (wpAny_pure (wpAny_bind (wpAny_collect_seq a (.inr rfl) at1 cls dat (fun g keep => ?_) (by rw [List.size_toArray]; exact size))))
  rw [show its.toArray.toList = its by simp]
  have kept := I.kept (h' := g) (t' := s.toks) keep
  refine wpAny_bind (wpAny_newList ?_ size)
  generalize hL : g.push (seqObj "list" its.toArray 0) = L
  have new : L.get? g.objs.size = some (seqObj "list" its.toArray 0) := hL ▸ Heap.get?_push_size _ rfl
  refine wpAny_bind (wpAny_holding (wpAny_call_entry slot_list_sort ⟨_, new, rfl⟩ entry_list_sort (SrtO.list_sort_ord SrtO.swo_int new size (fun lt => SrtO.ints_sortable are lt) fun out o1 o2 => ⟨_, rfl, ?_⟩) (args_list_sort _)))
  obtain ⟨r1, r2, r3⟩ := SrtO.ints_out are o1 o2
  have ⟨c, at2⟩ := sortedHeap_at (vs := its) (out := out.toArray) new
  have few : ((out.map SrtO.iv).map V.int).length ≤ sizeLine := by
    rw [List.length_map, r2.length_eq]
    rw [List.length_map] at fits
    exact fits
  refine wpAny_pure ⟨_, rfl, .ref g.objs.size, upd H g.objs.size (.lst ((out.map SrtO.iv).map V.int)), kept.laid (t' := s.toks) (fun b u e => ?_) (Nat.le_refl _) ⟨few, out, c, vals_of_ints r1, at2⟩, rfl, q _ _ r2 r3 (kept.hok.fresh (Nat.le_refl _))⟩
  have lt := Heap.lt_size e
  show (sortedHeap L g.objs.size its out.toArray).get? b = some u
  rw [sortedHeap_old (Nat.ne_of_lt lt) (hL ▸ size_push' g _ ▸ Nat.lt_succ_of_lt lt), ← hL]
  exact Heap.get?_push_of_some _ e
end Tc
/-! sorted(dict of int keys), of any number -/
namespace Tc
open PySem PySem.Spec PyProof.Rows L2
def rSortedDA : List V → Hp → VK → Prop := fun vs H Q => ∃ (a : Addr) (kvs : List (Key × V)) (ks : List Int), vs = [V.ref a] ∧ Rd H a (.dK kvs) ∧ kvs.map (·.1) = ks.map Sum.inl ∧ ∀ (ms : List Int) (p : Addr), ms.Perm ks → ms.Pairwise (· ≤ ·) → H p = none → Q (.ref p) (upd H p (.lst (ms.map V.int)))
set_option maxHeartbeats 4000000 in
theorem cr_sortedDA {X : Cx} (hc : X.calm = true) : CallR X (.builtin "sorted") rSortedDA := by
  intro pins s σ H vs us Q I r ⟨a, kvs, ks, e0, hd, hks, q⟩
  subst e0
  rw [Vals.ref1 r]
  obtain ⟨fits, lo, prs, rel, dd⟩ := dk_rd I.hok hd
  obtain ⟨ep, hat⟩ := dd.dictAt
  have keys : prs.map (·.1) = ks.map Sum.inl := rel.keys.symm.trans hks
  have many : prs.length = ks.length := by simpa using congrArg List.length keys
  have size : prs.length ≤ sizeLine := by
    have e := congrArg List.length hks
    rw [List.length_map] at e
    rw [List.length_map] at e
    rw [many, ← e]
    exact fits
  refine Calls.call_function_entry kind_sorted plain_sorted entry_sorted (args_sorted1 _) (show wpAny _ _ (Builtin.«sorted» _) _ _ _ from ?_)
  refine wpAny_bind (m := checkCount "sorted" 1 1 _) (wpAny_pure (wpAny_bind (PySem.W.kdu_collect (A := X.A.in1) (PySem.W.kdl_dict (knd := mixKind X.prog X.w) (kvs := prs) (ep := ep) lo) (I.ok.hd hc) hat size fun g tk acc keep items => ?_)))
  have al : acc.toList.length = ks.length := by rw [Array.length_toList, items.1, many]
  have are : IntsAre acc.toList ks := ints_each al fun j v e => by
    obtain ⟨k, x, e1, e2⟩ := items.2 j v (by rw [← Array.getElem?_toList]; exact e)
    have e3 : (ks.map (Sum.inl : Int → Key))[j]? = some k := by rw [← keys, List.getElem?_map, e1]; rfl
    rw [List.getElem?_map] at e3
    obtain ⟨y, e4, e5⟩ := Option.map_eq_some_iff.mp e3
    subst e5
    have sh := keyIs_shape (show keyIs (Sum.inl y) v = true from e2)
    rcases sh with ⟨i, t, ek, ev⟩ | ⟨z, t, ek, ev⟩
    · cases ek
      exact ⟨y, t, e4, ev⟩
    · cases ek
  have kept : Inv X pins σ H { s with heap := g, toks := tk } := I.kept keep
  have size2 : acc.toList.length ≤ sizeLine := by rw [al, ← many]; exact size
  refine wpAny_bind (wpAny_newList ?_ size2)
  generalize hL : g.push (seqObj "list" acc.toList.toArray 0) = L
  have new : L.get? g.objs.size = some (seqObj "list" acc.toList.toArray 0) := hL ▸ Heap.get?_push_size _ rfl
  show wpAny _ _ _ _ _ { s with heap := L, toks := tk }
  refine wpAny_bind (wpAny_holding (wpAny_call_entry slot_list_sort ⟨_, new, rfl⟩ entry_list_sort (SrtO.list_sort_ord SrtO.swo_int new size2 (fun lt => SrtO.ints_sortable are lt) fun out o1 o2 => ⟨_, rfl, ?_⟩) (args_list_sort _)))
  obtain ⟨r1, r2, r3⟩ := SrtO.ints_out are o1 o2
  have ⟨c, at2⟩ := sortedHeap_at (vs := acc.toList) (out := out.toArray) new
  have few : ((out.map SrtO.iv).map V.int).length ≤ sizeLine := by
    rw [List.length_map, r2.length_eq, ← al]
    exact size2
  refine wpAny_pure ⟨_, rfl, .ref g.objs.size, upd H g.objs.size (.lst ((out.map SrtO.iv).map V.int)), kept.laid (t' := tk) (fun b u e => ?_) (Nat.le_refl _) ⟨few, out, c, vals_of_ints r1, at2⟩, rfl, q _ _ r2 r3 (kept.hok.fresh (Nat.le_refl _))⟩
  have lt := Heap.lt_size e
  show (sortedHeap L g.objs.size acc.toList out.toArray).get? b = some u
  rw [sortedHeap_old (Nat.ne_of_lt lt) (hL ▸ size_push' g _ ▸ Nat.lt_succ_of_lt lt), ← hL]
  exact Heap.get?_push_of_some _ e
end Tc
/-! an exception's own __init__ that says super().__init__(..) -/
namespace Tc
open PySem PySem.Spec PyProof.Rows L2
section
variable {X : Cx} {pins : List (Addr × Obj)} {σ : L2.St} {H : Hp} {s : Shared} {A : Around} {E : Value → Shared → Prop} {a C u : Addr}
/-- the bound ValueError.__init__ called: nothing of it is told -/
theorem wrap_call {us : List Value} {Q : Value → Shared → Prop} (T : OexC X.K C) (I : Inv X pins σ H s) (e : H a = some (exo a C none)) (hu : s.heap.get? u = some (PySem.W.kxs_mw "ValueError.__init__" a)) (hl : us.length ≤ sizeLine) (h : ∀ s', Inv X pins σ H s' → Q .none s') :
    wpAny (model X.prog X.w) A (call (.ref u) us) Q E s := by
  obtain ⟨cn, cq, cN, cb, cm, c1, c2, c3, c4, c5, j0, j1, j2, j3, j5, hC, hbm⟩ := T.cls
  obtain ⟨t1, ho⟩ := exo_at I.hok e
  obtain ⟨hp, g, d, t, os⟩ := s
  have fin : ∀ h', (∀ b o, b ≠ a → hp.get? b = some o → h'.get? b = some o) → h'.get? a = some (PySem.W.excObj C hp.objs.size none .none) → Q .none ⟨h', g, d, t, os⟩ := fun h' k hx => by
    have J := I.write (x := a) (e := a) (o := exo a C none) (t' := t) (e ▸ True.intro) (.inl rfl) k ⟨_, hx⟩ (exo_ok hx)
    have still : upd H a (exo a C none) = H := by
      funext b
      by_cases hb : b = a
      · rw [hb, upd_same, e]
      · rw [upd_ne hb]
    rw [still] at J
    exact h _ J
  refine wpAny_call (codeAny_of_tree (show wpAny _ A.in1 (callAny (.ref u) ⟨us, []⟩) _ _ _ from ?_))
  simp only [callAny]
  refine wpAny_bind (wpAny_load hu ?_)
  have w1 : (Value.type "method-wrapper" == Value.type "method" || Value.type "method-wrapper" == Value.type "builtin_function_or_method" || Value.type "method-wrapper" == Value.type "method-wrapper") = true := by decide
  simp only [PySem.W.kxs_mw, w1, if_true]
  refine PySem.W.KFB.if_so (by decide) (wpAny_bind (PySem.W.check_bound_init PySem.F.excBase_ValueError.toExcCallFacts (I.kIn _ _ hC) ho rfl (wpAny_bind (wpAny_pure (wpAny_pure ⟨plainId_quiet PySem.F.excBase_ValueError.init.plain _, codeAny_builtin PySem.F.excBase_ValueError.initEntry ?_⟩)))))
  exact PySem.W.exc_init_tree (cls := .ref C) (t0 := t1) (dv := none) (c2 := .none) (c3 := .none) (b4 := .bool false) ho hl fun h' k hx _ => fin h' k hx
end
end Tc
namespace Tc
open PySem PySem.Spec PyProof.Rows L2
/-- a bound __init__, as it stands for a moment -/
def mwO (u a : Addr) : HO := .ext fun h => h.get? u = some (PySem.W.kxs_mw "ValueError.__init__" a)
/-- what is known of the def, its code, its class -/
structure SupX (X : Cx) (C f cc cda : Addr) (me : Str) : Prop where
  ks : Gl X "super"
  kc : X.env.kindOf "__class__" = some .free
  fu : X.env.func = some f
  co : X.env.code = .ref cda
  fn : ∃ (of : Obj) (fd : FuncData) (ar : Arg), X.K.lookup f = some of ∧ of.data = .func fd ∧ (fd.params.posonlyargs ++ fd.params.args).head? = some ar ∧ ar.arg = me
  cd : ∃ (oc : Obj) (vs : Array Value) (file : Str) (tf : Tok), X.K.lookup cda = some oc ∧ oc.data = .fields vs ∧ vs[2]? = some (.str file tf) ∧ ((X.prog.main.file : Str) == file) = true
  top : (X.prog.main.scope.names.lookup ("super" : Str)).isSome = false
  mg : X.mg "super" = none
  ce : X.env.cells.lookup ("__class__" : Str) = some cc
  cv : ∃ ol : Obj, X.K.lookup cc = some ol ∧ ol.data = .cell (some (.ref C))
  lo : X.env.scope.names.lookup me = some .local
  cl : ∃ cdC : ClassData, PySem.W.clsIn X.K C = some cdC
  mr : PySem.W.mroIn X.K C (.ref C) = some true
  op : PySem.W.nsIn X.K cStatics "thirdparty.any" = some none
  su : PySem.W.ks_superIn X.K C C "__init__" = some (some (.builtin "ValueError.__init__"))
  ve : PySem.W.subIn X.K (.ref C) (.type "ValueError") = some true
theorem mwO_ok {P : Program} {w : World} {H : Hp} {h : Heap} {u a : Addr} (hu : h.get? u = some (PySem.W.kxs_mw "ValueError.__init__" a)) : ObjOk P w H h u (mwO u a) := ⟨hu, ⟨_, hu⟩, fun h1 h2 z k => k _ z⟩
theorem boot_sup : bootBuiltins "super" = some (.type "super") := PyProof.Rows.Boot.«super»
section
variable {X : Cx} {pins : List (Addr × Obj)} {σ : L2.St} {H : Hp} {s : Shared} {a C f cc cda : Addr} {me : Str}
set_option maxHeartbeats 2000000 in
/-- super().__init__(e) -/
theorem sup_init {body : List Stmt} {p0 p1 p2 pos : Pos} {e : Expr} {ta : TA} {i : Nat} {Q : VK} (Z : SupX X C f cc cda me) (T : OexC X.K C) (I : Inv X pins σ H s) (ea : H a = some (exo a C none)) (hi : X.N[i]? = some me) (hs : σ[i]? = some (some (.ref a))) (ha : PA X [e] ta)
    (hta : ∀ u, H u = none → ta σ (upd H u (mwO u a)) fun vs H1 => H1 = upd H u (mwO u a) ∧ vs.length ≤ 1000 ∧ Q .non H1)
    {pl : Sem Bool} (hc : eval (.Call (.Attribute (.Call (.Name "super" p0) [] [] p1) "__init__" p2) [e] [] pos) X.env = (do
      let ov ← attributeBase (.Call (.Name "super" p0) [] [] p1) "__init__" X.env (eval (.Call (.Name "super" p0) [] [] p1) X.env)
      standAt p2.atName
      let (g, g1) ← holding [ov] (getMethod ov "__init__" pl)
      callWith pos g g1 (backTo pos (starEach [e] X.env)) []))
    (he : starEach [e] X.env = (false, eval e X.env) :: starEach [] X.env := by rfl) :
    PySem.wpAt (model X.prog X.w) X.A (.func body X.env) (eval (.Call (.Attribute (.Call (.Name "super" p0) [] [] p1) "__init__" p2) [e] [] pos) X.env) (EP X pins σ Q) X.xe s := by
  obtain ⟨of, fd, ar, lf, hfd, hp, ear⟩ := Z.fn
  obtain ⟨oc, vs, file, tf, lc, hoc, hvs, hfile⟩ := Z.cd
  obtain ⟨ol, lo, hol⟩ := Z.cv
  obtain ⟨cdC, hcC⟩ := Z.cl
  subst ear
  have K1 := I.kIn
  obtain ⟨t1, hx⟩ := exo_at I.hok ea
  have In1 : PySem.W.InstAt s.heap a (PySem.W.excObj C t1 none .none) C none := ⟨hx, rfl, rfl, trivial⟩
  obtain ⟨oD, hD1, hD2⟩ : ∃ oD, s.heap.get? C = some oD ∧ oD.data = .cls cdC := by
    unfold PySem.W.clsIn at hcC
    split at hcC
    · rename_i ho
      cases hcC
      exact ⟨_, K1 _ _ ho, rfl⟩
    · cases hcC
  obtain ⟨hp', g, d, t, os⟩ := s
  refine PySem.ks_wpAt_MethodCall (pl := pl) (PySem.ks_wpAt_super_base Z.ks Z.kc (by decide) Z.fu (K1 _ _ lf) hfd hp Z.co (K1 _ _ lc) hoc hvs hfile Z.top ?_) hc
  obtain ⟨mb, b1, b2⟩ := I.mod.blt
  refine PySem.W.ks_loadName_global I.ok.kind Z.ks (Calls.loadGlobal_builtin (by rw [I.ok.glob]; exact I.mod.glob.keeps I.bk) Z.mg (by rw [I.ok.blt]; exact b1.keeps I.bk) ((b2 "super" (by decide)).trans boot_sup) ⟨rfl, ?_⟩)
  refine wpAny_loadName_free I.ok.kind Z.kc Z.ce ⟨ol, K1 _ _ lo, hol⟩ ?_
  obtain ⟨m, hn, hl⟩ := I.loc
  obtain ⟨uv, r, l⟩ := hl i ar.arg (.ref a) hi hs (.inl Z.lo)
  obtain rfl : uv = Value.ref a := r
  rcases l with ⟨hk, hm⟩ | ⟨hk, _⟩
  · refine wpAny_loadName_local I.ok.kind hk hn hm (PySem.ks_wpAny_isType_cls hD1 hD2 ⟨rfl, PySem.ks_wpAny_call_super hD1 hD2 hx rfl (fun c e => by cases e) (PySem.W.looks_mroIn K1 Z.mr) fun h' hso kp => ?_⟩)
    have I2 : Inv X pins σ H ⟨h', g, d, t, os⟩ := I.kept (t' := t) kp
    have K2 := I2.kIn
    have In2 : PySem.W.InstAt h' a (PySem.W.excObj C t1 none .none) C none := ⟨kp _ _ hx, rfl, rfl, trivial⟩
    have hsu := Z.su
    unfold PySem.W.ks_superIn at hsu
    rw [hcC] at hsu
    refine PySem.W.kxs_getMethod PySem.W.kxs_ValueError hso (PySem.W.looks_opaque K2 Z.op) (l₀ := cdC.mro) (fun A' Q' E' s' k' q' => wpAny_bind ((PySem.W.looks_clsIn K2 hcC) A' _ E' s' k' (wpAny_pure q'))) rfl K2 hsu (In2.type.andThen (PySem.W.looks_subIn K2 Z.ve)) (PySem.W.ks_ne K2 In2 hcC) (by decide) ?_
    have nu : H h'.objs.size = none := I2.hok.fresh (Nat.le_refl _)
    have I3 : Inv X pins σ (upd H h'.objs.size (mwO h'.objs.size a)) ⟨h'.push (PySem.W.kxs_mw "ValueError.__init__" a), g, d, t + 1, os⟩ := I2.laid (a := h'.objs.size) (t' := t + 1) (fun b o z => Heap.get?_push_of_some _ z) (Nat.le_refl _) (mwO_ok (Heap.get?_push_size _ rfl))
    generalize h'.objs.size = u at nu I3 ⊢
    generalize h'.push (PySem.W.kxs_mw "ValueError.__init__" a) = h3 at I3 ⊢
    have au : a ≠ u := fun z => by
      rw [← z, ea] at nu
      cases nu
    rw [he]
    refine PySem.W.kxs_callWith (i := "ValueError.__init__") (x := a) rfl (Calls.evalArgs_plain ?_)
    have run := ha.run pos pins _ σ _ _ I3 (hta u nu)
    rw [he] at run
    refine thn run fun us s4 ⟨vs4, H4, I4, rv, eH, hlen, q⟩ => ?_
    subst eH
    have hu4 : s4.heap.get? u = some (PySem.W.kxs_mw "ValueError.__init__" a) := (show ObjOk X.prog X.w _ _ u (mwO u a) from I4.hok u _ upd_same).1
    have hl4 : us.length ≤ sizeLine := by
      rw [← Paired.length rv, sizeLine_eq]
      omega
    exact ⟨hu4, wrap_call T I4 (by rw [upd_ne au]; exact ea) hu4 hl4 fun s' J => ⟨.non, _, J, rfl, q⟩⟩
  · have zl : X.env.kindOf ar.arg = some .local := Z.lo
    rcases hk with hk | hk
    · rw [zl] at hk
      cases hk
    · rw [zl] at hk
      cases hk
end
end Tc
namespace Tc
open PySem PySem.Spec PyProof.Rows L2 NdefX
section
variable {CX : CXT} {P : Program} {w : World} {K : PySem.W.Frag} {mg : Str → Option Value} {base : Heap} {N ps : List Str} {f cc cda C : Addr} {k : Nat} {sp : Sp} {name qual : Str} {params : Arguments} {scope : Scope} {st1 st2 : Stmt} {dV kV doc pm ct oc : Value} {an od : Option Addr} {osl : Array (Option Value)}
/-- the def as a nested one, its one cell the class -/
abbrev xF (name qual : Str) (params : Arguments) (st1 st2 : Stmt) (scope : Scope) (cc cda : Addr) : NF := ⟨name, qual, params, [st1, st2], scope, [("__class__", cc)], cda⟩
set_option maxHeartbeats 2000000 in
/-- a def whose first row is super().__init__(e) -/
theorem fn_super {p0 p1 p2 pos pos' : Pos} {e : Expr} {me : Str} (lk : K.lookup f = some ⟨oc, od, .func (PySem.W.fnX name qual params [st1, st2] scope [("__class__", cc)] dV kV doc pm an (.ref cda) ct), osl⟩) (hcd : PySem.W.codeIn K (.ref cda) qual = true) (S : NScope N ps ["__class__"] scope)
    (len : ∀ vs H Q E, sp vs H Q E → vs.length = ps.length) (T : OexC K C) (ccK : ∃ ol : Obj, K.lookup cc = some ol ∧ ol.data = .cell (some (.ref C)))
    (hst : st1 = .Expr (.Call (.Attribute (.Call (.Name "super" p0) [] [] p1) "__init__" p2) [e] [] pos) pos') (h0 : N[0]? = some me)
    (hcall : ∀ env : Env, ∃ pl : Sem Bool, eval (.Call (.Attribute (.Call (.Name "super" p0) [] [] p1) "__init__" p2) [e] [] pos) env = (do
      let ov ← attributeBase (.Call (.Name "super" p0) [] [] p1) "__init__" env (eval (.Call (.Name "super" p0) [] [] p1) env)
      standAt p2.atName
      let (g, g1) ← holding [ov] (getMethod ov "__init__" pl)
      callWith pos g g1 (backTo pos (starEach [e] env)) []))
    (hstar : ∀ env : Env, starEach [e] env = (false, eval e env) :: starEach [] env)
    (hint : ∀ L : Addr, interactive (envF (xF name qual params st1 st2 scope cc cda) f L) = false)
    (hsw : ∀ L : Addr, swapsWith (.Call (.Attribute (.Call (.Name "super" p0) [] [] p1) "__init__" p2) [e] [] pos) none pos'.line (envF (xF name qual params st1 st2 scope cc cda) f L) = pure false)
    (hZ : ∀ (A : Around) (outer : List Env) (s : Shared) (H : Hp) (E : XK), SupX (ncx CX P w K mg base N (xF name qual params st1 st2 scope cc cda) f A outer s H E) C f cc cda me)
    (hbody : ∀ (A : Around) (outer : List Env) (s : Shared) (H : Hp) (vs : List V) (Q : VK) (E : XK), Room k (A.deeper (envF (xF name qual params st1 st2 scope cc cda) f s.heap.objs.size)) → sp vs H Q E →
      ∃ (a : Addr) (ta : TA) (t2 : TS), vs[0]? = some (.ref a) ∧ H a = some (exo a C none) ∧ PA (ncx CX P w K mg base N (xF name qual params st1 st2 scope cc cda) f A outer s H E) [e] ta ∧ PSs (ncx CX P w K mg base N (xF name qual params st1 st2 scope cc cda) f A outer s H E) [st2] t2 ∧
        ∀ u, H u = none → ta (startF N vs [some (.ref C)]) (upd H u (mwO u a)) fun ws H1 => H1 = upd H u (mwO u a) ∧ ws.length ≤ 1000 ∧ t2 { nx := fun _ H' => Q .non H', rt := Q } (startF N vs [some (.ref C)]) H1) :
    FnOk P w K mg base CX (k + 1) f (PySem.W.fnX name qual params [st1, st2] scope [("__class__", cc)] dV kV doc pm an (.ref cda) ct) ps sp := by
  refine ⟨len, fun A outer s H aa us vs Q E hr e0 hb r hsp => ?_⟩
  have hl := len _ _ _ _ hsp
  have KX : K.In s.heap := e0.mod.kin.keeps fun b o z => (e0.bs b o z).1
  have lim : s.heap.NoLimit := e0.mod.nolimit.keeps fun b o z => (e0.bs b o z).1
  refine PySem.ks_codeAny_call_defAt hr.depth (KX _ _ lk) rfl lim (PySem.W.codeRec_of KX hcd) rfl hb S.nocell (fun ⟨n, _⟩ hy => S.par n (List.of_mem_zip hy).1) (fun h₁ hns kp => ?_) S.co S.gen S.kind
  obtain ⟨ol, lo, hol⟩ := ccK
  have C1 : CellsAt (xF name qual params st1 st2 scope cc cda).cl ["__class__"] [some (.ref C)] s.heap H := by
    have only : ∀ {y : Str} {c : Addr}, ([("__class__", cc)] : List (Str × Addr)).lookup y = some c → y = ("__class__" : Str) ∧ c = cc := fun {y c} h => by
      by_cases z : y = ("__class__" : Str)
      · subst z
        rw [List.lookup_cons_self] at h
        exact ⟨rfl, (Option.some.inj h).symm⟩
      · rw [List.lookup_cons, show (y == ("__class__" : Str)) = false from beq_eq_false_iff_ne.mpr z] at h
        cases h
    have hb0 : base.get? cc = some ol := e0.mod.kin _ _ lo
    obtain ⟨hc1, hc2⟩ := e0.bs _ _ hb0
    have cell : s.heap.IsCell cc (some (.ref C)) := ⟨ol, hc1, hol⟩
    refine ⟨rfl, fun y c h => ?_, fun x y c h1 h2 => (only h1).1.trans (only h2).1.symm, fun i y h => ?_⟩
    · obtain ⟨_, rfl⟩ := only h
      exact ⟨hc2, _, cell⟩
    · cases i with
      | zero =>
        cases h
        exact ⟨cc, List.lookup_cons_self, fun v hv => by
          cases hv
          exact ⟨_, rfl, cell⟩⟩
      | succ i => cases h
  have I : Inv (ncx CX P w K mg base N (xF name qual params st1 st2 scope cc cda) f A outer s H E) [] (startF N vs [some (.ref C)]) H { s with heap := h₁, toks := s.toks + (ps.zip us).length } := inv_startN S hr.hd e0 hl r C1 hns kp
  obtain ⟨a, ta, t2, hv0, ea, ha, h2, hta⟩ := hbody A outer s H vs Q E (hr.deeper _) hsp
  subst hst
  have hs0 : (startF N vs [some (.ref C)])[0]? = some (some (.ref a)) := by
    unfold startF
    cases vs with
    | nil => cases hv0
    | cons v vs =>
      cases hv0
      rfl
  have fin : ∀ {s' : Shared} {σ' : L2.St} {H' : Hp} {v : V} {u : Value}, Inv (ncx CX P w K mg base N (xF name qual params (.Expr (.Call (.Attribute (.Call (.Name "super" p0) [] [] p1) "__init__" p2) [e] [] pos) pos') st2 scope cc cda) f A outer s H E) [] σ' H' s' → L2.RelV v u → Q v H' → CE outer P w H s Q u s' := fun {s' σ' H' v u} J rv q => ⟨v, H', J.os, J.bare, J.base, J.hok, rv, q⟩
  obtain ⟨pl, hc⟩ := hcall (envF (xF name qual params (.Expr (.Call (.Attribute (.Call (.Name "super" p0) [] [] p1) "__init__" p2) [e] [] pos) pos') st2 scope cc cda) f s.heap.objs.size)
  refine PySem.ks_wpAt_execs_cons (PySem.ks_wpAt_Expr_any (PySem.ks_wpAt_mono (sup_init (hZ A outer s H E) T I ea h0 hs0 ha (Q := fun _ H1 => t2 { nx := fun _ H' => Q .non H', rt := Q } (startF N vs [some (.ref C)]) H1) hta hc (hstar _)) (fun v s1 h1 => ?_) fun _ _ z => z) (hint _) (hsw _))
  obtain ⟨y, H1, I1, _, q1⟩ := h1
  refine PySem.wpAt_of_wpAny (wpAny_mono (h2.run [] _ _ H1 _ I1 q1) (fun fl s2 hs => ?_) fun e s2 hs => hs)
  cases fl with
  | ret u =>
    obtain ⟨z, σ', H', J, rv, q⟩ := hs
    exact fin J rv q
  | next =>
    obtain ⟨σ', H', J, q⟩ := hs
    exact fin (u := Value.none) (v := V.non) J rfl q
  | brk =>
    obtain ⟨_, _, _, q⟩ := hs
    exact False.elim q
  | cont =>
    obtain ⟨_, _, _, q⟩ := hs
    exact False.elim q
end
end Tc
/-! exceptions whose context is None: made, raised, let through -/
namespace Tc
open PySem PySem.Spec PyProof.Rows L2
/-- a def that may let an exception out -/
def OwnX (P : Program) (w : World) (K : PySem.W.Frag) (mg : Str → Option Value) (base : Heap) (x : Str) (ps : List Str) (k : Nat) (sp : Sp) : Prop :=
  ∃ (f : Addr) (fd : FuncData), FnOk P w K mg base (L2N.CX P w) k f fd ps sp ∧ mg x = some (.ref f) ∧ PySem.W.keepIn K (.ref f) = true ∧ Binds K fd ps []
section
variable {P : Program} {w : World} {K : PySem.W.Frag} {mg : Str → Option Value} {base : Heap}
theorem okN {x qual : Str} {st : Stmt} {f : Addr} {fd : FuncData} {N ps : List Str} {k : Nat} {sp : Sp} (F : Fun K x qual st f fd) (S : FnScope N ps (defScope st)) (len : ∀ vs H Q E, sp vs H Q E → vs.length = ps.length)
    (hb : ∀ (cdv : Value) (A : Around) (outer : List Env) (s : Shared) (H : Hp) (vs : List V) (Q : VK) (E : XK), Room k (A.deeper (envOfC qual (defScope st) s.heap.objs.size f cdv)) → sp vs H Q E →
      ∃ t, PSs (cxOf (L2N.CX P w) P w K mg base N qual (defScope st) f cdv A outer s H E) (defBody st) t ∧ t { nx := fun _ H' => Q .non H', rt := Q } (start N vs) H) : FnOk P w K mg base (L2N.CX P w) (k + 1) f fd ps sp := by
  obtain ⟨_, _, _, _, _, _, cdv, _, _, rfl, lk, hcd⟩ := F.ex
  exact fn_of lk hcd S len fun A outer s H vs Q E hr z => hb cdv A outer s H vs Q E hr z
end
section
variable {X : Cx}
theorem none_out : L2N.Takes X (fun _ _ _ _ => False) := fun _ _ ⟨_, _, _, _, _, _, _, _, _, _, _, _, _, _, _, _, z⟩ => z.elim
theorem pe_ownX {W : WX} {x : Str} {ps : List Str} {k j : Nat} {sp : Sp} {e : Expr} {es : List Expr} {t : TA} {p pos : Pos} (d : OwnX X.prog X.w X.K X.mg X.base x ps k sp) (tk : L2N.Takes X W) (hr : Room j X.A) (hj : k ≤ j) (hg : Gl X x) (ha : PA X (e :: es) t)
    (he : starEach (e :: es) X.env = (false, eval e X.env) :: starEach es X.env := by rfl) (hdb : (x == ("__debug__" : Str)) = false := by decide) (hpl : (backTo pos (starEach es X.env)).any (·.1) = false := by rfl) :
    PE X (.Call (.Name x p) (e :: es) [] pos) (tCallS sp (WE W) t) := by
  obtain ⟨f, fd, F, hm, hk, hb⟩ := d
  exact pe_callS F (hr.mono hj) hg hm hk hb (fun σ => L2N.passAt tk σ) ha hdb he hpl
set_option maxHeartbeats 2000000 in
/-- C(e, ..) of an own __init__, the context None -/
theorem pmkN {CX : CXT} {x : Str} {e : Expr} {es : List Expr} {ta : TA} {p pos : Pos} {C fI : Addr} {k : Nat} {fd : FuncData} {ps : List Str} {sp : Sp} (T : OexC X.K C) (iC : PySem.W.findIn X.K (.ref C) "__init__" = some (some (.ref fI))) (tI : PySem.W.typeIn X.K (.ref fI) = some (.type "function"))
    (F1 : FnOk X.prog X.w X.K X.mg X.base CX k fI fd ps sp) (hr : Room (k + 1) X.A) (hb : Binds X.K fd ps []) (hx : Passes CX X (fun _ _ _ => False)) (hg : Gl X x) (hm : X.mg x = some (.ref C)) (ha : PA X (e :: es) ta)
    (hdb : (x == ("__debug__" : Str)) = false := by decide)
    (he : starEach (e :: es) X.env = (false, eval e X.env) :: starEach es X.env := by rfl) (hpl : (backTo pos (starEach es X.env)).any (·.1) = false := by rfl) :
    L2N.PMk X (.Call (.Name x p) (e :: es) [] pos) (tMkO C sp [] ta) := by
  intro pins s σ H Q I h
  have T0 := T.cls
  rcases T0 with ⟨_, _, _, _, bm, _, _, _, _, _, _, _, _, _, _, hC, vb⟩
  refine wpAny_Call_Name_kw (ld_glob I hg hm ?_ hdb)
  refine PySem.W.callWith_K (h₀ := X.base) I.mod.kin T.kC (thn (ha.run pos pins s σ H _ I h) fun us s1 z => ?_) he hpl
  rcases z with ⟨vs, H1, I1, r1, _, q1⟩
  refine ⟨I1.kIn, (?_ : wpAny _ _ (call (.ref C) us) _ _ _)⟩
  rcases s1 with ⟨h1, gs, dr, tk, os⟩
  have lt : h1.objs.size ≤ h1.objs.size + 1 := Nat.le_succ _
  have qa := q1 (h1.objs.size + 1) (I1.hok.fresh lt)
  rw [List.append_nil] at qa
  obtain ⟨h2, e2⟩ : ∃ h2 : Heap, h2 = (h1.push (PySem.W.kdv_tup us)).push (PySem.HandSPX.excO C h1.objs.size) := ⟨_, rfl⟩
  have kk : ∀ b o, h1.get? b = some o → h2.get? b = some o := fun b o z => by
    rw [e2]
    exact Heap.get?_push_of_some _ (Heap.get?_push_of_some _ z)
  have at1 : h2.get? (h1.objs.size + 1) = some (PySem.HandSPX.excO C h1.objs.size) := by
    rw [e2]
    heap_get
  have I2 : Inv X pins σ (upd H1 (h1.objs.size + 1) (exo (h1.objs.size + 1) C none)) ⟨h2, gs, dr, tk, os⟩ := I1.laid (t' := tk) kk lt (exo_ok at1)
  have r2 : Vals (.ref (h1.objs.size + 1) :: vs) (.ref (h1.objs.size + 1) :: us) := .cons rfl r1
  have few : us.length ≤ sizeLine := by
    have a := r1.length
    have b := F1.len _ _ _ _ qa
    rename_i c
    rw [← a, sizeLine_eq]
    omega
  have B := hb ⟨h2, gs, dr, tk, os⟩ (.ref (h1.objs.size + 1) :: us) I2.kIn (by
    rw [List.append_nil, ← r2.length]
    exact F1.len _ _ _ _ qa)
  rw [List.append_nil] at B
  rw [e2] at I2 B
  refine wpAny_call (PySem.HandSPX.call_own F.excBase_ValueError (fun Y => PySem.HandSPX.refsVE_contains Y bm vb) (I1.kIn _ _ hC) (PySem.W.looks_findIn I1.kIn iC) (fun a => PySem.W.bind_fn I1.kIn a tI) few (codeAny_mono (F1.run _ X.stack _ _ ⟨_, []⟩ _ _ _ (fun _ _ _ => False) (hr.make C us []) (I2.env0.make C us []) B r2 qa) fun r s' z => ?_))
  cases r with
  | error u => exact hx pins σ _ _ u s' I2 z
  | ok fl =>
    cases fl with
    | ret u =>
      rcases z with ⟨v, H2, o2, b2, u2, k2, rv, ev, d, fs, ea, ed, d1, q2⟩
      subst ev
      rcases s' with ⟨h3, g3, d3, t3, o3⟩
      rw [← e2] at u2
      have M := mk_end0 (d2 := d3) (t2 := t3) I1 lt kk u2 k2 o2 b2 ea ed d1
      rcases M with ⟨t0, G, J, kG, ge, hoe, na⟩
      exact ⟨rv, _, _, _, ⟨G, g3, d3, t3, o3⟩, _, .ref C, some d, rfl, J, kG, ge, hoe, ⟨rfl, rfl, fun ws hw => by
        cases hw
        rfl⟩, rfl, rfl, na, rfl, b2, raises_own T.exC T.tyC, q2⟩
    | next => exact z.elim
    | brk => exact z.elim
    | cont => exact z.elim
end
end Tc
/-! defs called in an except suite, what is known of the exception handed to them -/
namespace Tc
open PySem PySem.Spec PyProof.Rows L2 L2H
/-- a promise by the exception that is handled -/
abbrev SpP := Addr × Obj → Sp
structure FnP (P : Program) (w : World) (K : PySem.W.Frag) (mg : Str → Option Value) (base : Heap) (CX : CXT) (k : Nat) (f : Addr) (fd : FuncData) (ps : List Str) (sp : SpP) : Prop where
  len : ∀ p vs H Q E, sp p vs H Q E → vs.length = ps.length
  run : ∀ (A : Around) (outer : List Env) (s : Shared) (H : Hp) (as : Args) (us : List Value) (vs : List V) (Q : VK) (E : XK) (p : Addr × Obj), RoomH k A → Hot1 A p → PinOk outer H s p → Env0 P w K mg base A outer s H → BindsTo s fd as (ps.zip us) → Vals vs us → sp p vs H Q E →
    codeAny (model P w) A (.call (.ref f) as) (CR CX outer P w H s Q E) s
/-- by its name -/
def OwnP (P : Program) (w : World) (K : PySem.W.Frag) (mg : Str → Option Value) (base : Heap) (x : Str) (ps : List Str) (k : Nat) (sp : SpP) : Prop :=
  ∃ (f : Addr) (fd : FuncData), FnP P w K mg base CX0 k f fd ps sp ∧ mg x = some (.ref f) ∧ PySem.W.keepIn K (.ref f) = true ∧ Binds K fd ps []
section
variable {CX : CXT} {P : Program} {w : World} {K : PySem.W.Frag} {mg : Str → Option Value} {base : Heap}
theorem okP {x qual : Str} {st : Stmt} {f : Addr} {fd : FuncData} {N ps : List Str} {k : Nat} {sp : SpP} (F : Fun K x qual st f fd) (S : FnScope N ps (defScope st)) (len : ∀ p vs H Q E, sp p vs H Q E → vs.length = ps.length)
    (hb : ∀ (cdv : Value) (A : Around) (outer : List Env) (s : Shared) (H : Hp) (vs : List V) (Q : VK) (E : XK) (p : Addr × Obj), Hot1 A p → RoomH k (A.deeper (envOfC qual (defScope st) s.heap.objs.size f cdv)) → sp p vs H Q E →
      ∃ t, PSs (cxH CX P w K mg base N qual (defScope st) f cdv A outer s H E p) (defBody st) t ∧ t { nx := fun _ H' => Q .non H', rt := Q } (L2.start N vs) H) :
    FnP P w K mg base CX (k + 1) f fd ps sp := by
  obtain ⟨_, _, _, _, _, _, cdv, _, _, rfl, lk, hcd⟩ := F.ex
  refine ⟨len, fun A outer s H as us vs Q E p hr hot hpin e0 hbd r z => ?_⟩
  have kb : ∀ b o, base.get? b = some o → s.heap.get? b = some o := fun b o y => (e0.bs b o y).1
  have KX := e0.mod.kin.keeps kb
  have lim := e0.mod.nolimit.keeps kb
  refine codeAny_call_function hr.depth (KX _ _ lk) rfl S.co S.gen rfl (PySem.W.codeRec_of KX hcd) (hbd _ _ _ _ (wpAny_newFunctionEnv_cells S.kind (fun y hy => ?_) fun env he s1 x => ?_))
  · exact (S.par y.1 (List.of_mem_zip hy).1).imp id fun q => ⟨q, PySem.W.cellsFrom_some _ _ _ (.inl q)⟩
  · cases he
    have kept := lim.keeps x.toInCall.keep
    refine ⟨kept, codeAny_func ?_⟩
    obtain ⟨t, ht, hq⟩ := hb cdv A outer s H vs Q E p hot (hr.deeper _) z
    have I0 : Inv (cxH CX P w K mg base N qual (defScope st) f cdv A outer s H E p) [] (L2.start N vs) H s1 := inv_startH S hpin e0 (len _ _ _ _ _ z) r x
    refine wpAny_mono (ht.run [] s1 _ H _ I0 hq) (fun fl s' y => ?_) fun u s' y => y
    match fl, y with
    | .ret u, ⟨v, _, H', J, rv, q⟩ => exact (⟨v, H', J.os, J.bare, J.base, J.hok, rv, q⟩ : CE outer P w H s Q u s')
    | .next, ⟨_, H', J, q⟩ => exact (⟨.non, H', J.os, J.bare, J.base, J.hok, rfl, q⟩ : CE outer P w H s Q .none s')
    | .brk, ⟨_, _, _, q⟩ => exact q.elim
    | .cont, ⟨_, _, _, q⟩ => exact q.elim
end
section
variable {X : Cx}
/-- the exception stands pinned in X -/
def HotP (X : Cx) (p : Addr × Obj) : Prop := Hot1 X.A p ∧ p ∈ X.pn
theorem HotP.c {p : Addr × Obj} (h : HotP X p) : HotC X := ⟨p, h.1, h.2⟩
theorem pe_ownP {x : Str} {ps : List Str} {k j : Nat} {sp : SpP} {pt : Addr × Obj} {e : Expr} {es : List Expr} {t : TA} {p pos : Pos} (d : OwnP X.prog X.w X.K X.mg X.base x ps k sp) (hp : HotP X pt) (hr : RoomH j X.A) (hj : k ≤ j) (hg : Gl X x) (ha : PA X (e :: es) t)
    (he : starEach (e :: es) X.env = (false, eval e X.env) :: starEach es X.env := by rfl) (hdb : (x == ("__debug__" : Str)) = false := by decide) (hpl : (backTo pos (starEach es X.env)).any (·.1) = false := by rfl) :
    PE X (.Call (.Name x p) (e :: es) [] pos) (tCall (sp pt) [] E0 t) := by
  obtain ⟨f, fd, F, hm, hk, hb⟩ := d
  refine ⟨fun pins s σ H Q I h => ?_⟩
  refine wpAny_Call_Name_kw (ld_glob I hg hm ?_ hdb)
  refine PySem.W.callWith_K (h₀ := X.base) I.mod.kin hk (thn (ha.run pos pins s σ H _ I h) fun us s1 z => ?_) he hpl
  obtain ⟨vs, H1, I1, r, q⟩ := z
  rw [List.append_nil] at q
  have b := hb s1 us I1.kIn (by
    rw [List.append_nil, ← r.length]
    exact F.len _ _ _ _ _ q)
  rw [List.append_nil] at b
  have y := I1.pin pt (List.mem_append_left _ hp.2)
  refine ⟨I1.kIn, wpAny_call (codeAny_mono (F.run X.A X.stack s1 H1 ⟨us, []⟩ us vs Q E0 pt (hr.mono hj) hp.1 ⟨y.1, y.2.1, fun m => ?_, y.2.2.2.2⟩ I1.env0 b r q) fun r' s' z => ?_)⟩
  · rcases List.mem_cons.mp (I1.stkSub pt.1 m) with m | m
    · exact y.2.2.1 m
    · exact y.2.2.2.1 m
  · match r', z with
    | .ok (.ret u), z => exact I1.after z
/-- what is to be known of the class D -/
structure ExK (K : PySem.W.Frag) (D : Addr) : Prop where
  cl : (PySem.W.clsIn K D).isSome = true
  ga : PySem.W.findIn K (.ref D) "__getattribute__" = some (some (.builtin "BaseException.__getattribute__"))
  gt : PySem.W.findIn K (.ref D) "__getattr__" = some none
  sb : PySem.W.subIn K (.ref D) (.type "BaseException") = some true
  ca : PySem.W.findIn K (.ref D) "__class__" = some (some (.builtin "object.__class__"))
  cg : PySem.W.specialIn K (.builtin "object.__class__") "__get__" = some (some (.builtin "getset_descriptor.__get__"))
  tc : PySem.W.takesIn K (.builtin "object.__class__") = some true
  mo : PySem.W.mroIn K D (.type "object") = some true
/-- the exception pinned at p is of the class D, its dict d -/
structure IsEx (D : Addr) (d : Option Addr) (p : Addr × Obj) : Prop where
  cl : p.2.cls = .ref D
  di : p.2.dict = d
  fs : ∃ vs, p.2.data = .fields vs
/-- isinstance(e, c) of the pinned one; its dict, if it has one, stands tracked -/
def rIsP (K : PySem.W.Frag) (D : Addr) (d : Option Addr) (p : Addr × Obj) : List V → Hp → VK → Prop := fun xs H Q => ∃ (c : V) (cv : Value) (b : Bool), xs = [.ref p.1, c] ∧ (∀ u, RelV c u → u = cv) ∧ (∀ a, d = some a → ∃ fs, H a = some (.xd fs)) ∧ PySem.W.kitOne K (.ref D) cv = some b ∧ Q (.bl b) H
theorem call_isP {D : Addr} {d : Option Addr} {p : Addr × Obj} (C : ExK X.K D) (hp : p ∈ X.pn) (hx : IsEx D d p) : CallR X (.builtin "isinstance") (rIsP X.K D d p) := by
  intro pins s σ H xs us Q I r h
  obtain ⟨c, cv, b, rfl, hcv, hd, e, q⟩ := h
  match us, r with
  | [_, u], .cons r1 (.cons r2 .nil) =>
    cases r1
    have ec := hcv u r2
    subst ec
    have y := (I.pin p (List.mem_append_left _ hp)).1
    obtain ⟨vs, hv⟩ := hx.fs
    have nc : PySem.W.notCls p.2 = true := by
      unfold PySem.W.notCls
      rw [hv]
    have J : ∃ od, PySem.W.InstAt s.heap p.1 p.2 D od := by
      cases d with
      | none => exact ⟨none, y, hx.cl, nc, by
          rw [hx.di]
          trivial⟩
      | some a =>
        obtain ⟨fs, hd⟩ := hd a rfl
        have hz : ObjOk X.prog X.w H s.heap a (.xd fs) := I.hok a _ hd
        obtain ⟨mA, hns, _⟩ := hz
        obtain ⟨od, ho, _⟩ := lookIn_ns hns
        exact ⟨some od, y, hx.cl, nc, by
          rw [hx.di]
          exact ho⟩
    obtain ⟨od, J⟩ := J
    exact PySem.W.kia_one (PySem.W.kitx_exc C.cl C.ga C.gt C.sb C.ca C.cg C.tc C.mo) I.kIn J e (fun z => nomatch z) fun tk => ⟨.bl b, H, I.kept (t' := tk) fun _ _ z => z, rfl, q⟩
end
end Tc
/-! a list comprehension in a def that an except suite calls -/
namespace Tc
open PySem PySem.Spec PyProof.Rows L2 L2H
/-- the block, the exception pinned in it -/
abbrev blkH (X : Cx) (s : Shared) (H : Hp) (sc : Scope) (ce : Env) (fp : List Addr) (pt : Addr × Obj) : Cx := { X.blk s H sc ce fp with pn := [pt] }
section
variable {X : Cx} {pins : List (Addr × Obj)} {σ : L2.St} {H : Hp} {s : Shared} {pt : Addr × Obj}
theorem inv_blkH {sc : Scope} {own : List (Str × Nat)} {fp : List Addr} (I : Inv X pins σ H s) (ok : BlkOk X.N X.env.scope sc own) (hN : X.N.Nodup) (hp : pt ∈ X.pn) (hf : ∀ b ∈ fp, FpOk X pins H b ∧ b < s.heap.objs.size) :
    Inv (blkH X s H sc (compEnvC sc (cellsFrom (s.heap.objs.size + 1) sc.names (cloFrom X.env.cells sc.names [])) s.heap.objs.size X.env) fp pt) [] (wipe σ (own.map (·.2))) H { s with heap := pushCells (s.heap.push { cls := .type "dict", data := .dict #[] }) sc.names } := by
  have J := block_start I ok hN hf
  have y := I.pin pt (List.mem_append_left _ hp)
  have o := J.ok
  refine ⟨⟨o.mod, o.kind, o.glob, o.blt, o.above, o.inj, o.has, o.cab, o.hd, o.frames, o.stk, o.exf, o.bs, o.bsz, o.noex, o.exfs, o.funs, o.frf⟩, J.os, J.bare, J.base, J.loc, J.cell, J.free, J.freeC, fun q hq => ?_, J.hok, J.len⟩
  have e : q = pt := by simpa using (show q ∈ [pt] ++ ([] : List (Addr × Obj)) from hq)
  subst e
  refine ⟨pushCells_keeps _ _ _ _ (Heap.get?_push_of_some _ y.1), y.2.1, Nat.ne_of_lt (Heap.lt_size y.1), fun m => ?_, y.2.2.2.2⟩
  rcases List.mem_cons.mp (I.stkSub q.1 m) with m | m
  · exact y.2.2.1 m
  · exact y.2.2.2.1 m
end
section
variable {X : Cx} {pt : Addr × Obj}
set_option maxHeartbeats 2000000 in
theorem pe_lcH {elt tg iter : Expr} {ifs : List Expr} {sc : Scope} {own : List (Str × Nat)} {pos : Pos} {wi : TI} {g : TG} {tt : TT} {te : TE} (hp : HotP X pt) (hN : X.N.Nodup) (hi : PIH X tg iter wi) (ok : BlkOk X.N X.env.scope sc own)
    (hg : ∀ (s : Shared) (H : Hp) (C : Addr) (cl : List (Str × Addr)) (fp : List Addr), PG (blkH X s H sc (compEnvC sc cl C X.env) fp pt) tg g) (ht : ∀ (s : Shared) (H : Hp) (C : Addr) (cl : List (Str × Addr)) (fp : List Addr), PTs (blkH X s H sc (compEnvC sc cl C X.env) fp pt) ifs tt)
    (he : ∀ (s : Shared) (H : Hp) (C : Addr) (cl : List (Str × Addr)) (fp : List Addr), PE (blkH X s H sc (compEnvC sc cl C X.env) fp pt) elt te) (hs : ∀ x, foldedSetIterable iter X.env x = pure x := by intro _; rfl) :
    PE X (.ListComp elt [⟨tg, iter, ifs, 0⟩] sc pos) (tLc wi g tt te (own.map (·.2))) := by
  refine ⟨fun pins s σ H Q I h => ?_⟩
  rw [eval_ListComp]
  have fr : ∀ y ∈ sc.names, y.2 = .free → ∃ c, X.env.cells.lookup y.1 = some c := fun y hy e => I.ok.has _ (ok.free y hy e)
  refine wpAny_comprehension_free (use := none) rfl hs (closure_ok fr) ok.kind (fun y hy e => (ok.uniq y hy).trans (congrArg some e)) (thn (hi.run pins s σ H _ I h) fun xv s1 hx => thn hx fun iv s2 z => ?_)
  obtain ⟨it, fp, tn, J, H2, ei, I2, T, t2, f2, q⟩ := z
  subst ei
  refine wpAny_newObj_type (newEnv_comp ?_) (Nat.zero_le _)
  have nD : H2 s2.heap.objs.size = none := I2.hok.fresh (Nat.le_refl _)
  have J3 : Inv X pins σ (upd H2 s2.heap.objs.size (.lst [])) { s2 with heap := s2.heap.push { cls := .type "list", data := .seq ([] : List Value).toArray } } :=
    I2.laid (t' := s2.toks) (fun b o e => Heap.get?_push_of_some _ e) (Nat.le_refl _) ⟨Nat.zero_le _, [], 0, .nil, Heap.get?_push_size _ rfl⟩
  have fpl : ∀ b ∈ fp, b < s2.heap.objs.size := fun b hb => by
    obtain ⟨o, e, _⟩ := T.obj _ _ t2 b hb
    exact Heap.lt_size e
  have f3 : ∀ b ∈ fp, FpOk X pins (upd H2 s2.heap.objs.size (.lst [])) b ∧ b < (s2.heap.push { cls := .type "list", data := .seq ([] : List Value).toArray }).objs.size := fun b hb =>
    ⟨⟨(upd_ne (Nat.ne_of_lt (fpl b hb))).trans (f2 b hb).1, (f2 b hb).2⟩, by
      rw [Heap.size_push]
      exact Nat.lt_succ_of_lt (fpl b hb)⟩
  have t3 : tn 0 (s2.heap.push { cls := .type "list", data := .seq ([] : List Value).toArray }) := T.keep _ _ _ t2 fun b _ o e => Heap.get?_push_of_some _ e
  obtain ⟨W, ⟨m0, w0⟩, turn⟩ := q _ nD
  generalize s2.heap.objs.size = D at *
  generalize upd H2 D (.lst []) = H3 at *
  obtain ⟨s3, e3⟩ : ∃ s3 : Shared, s3 = { s2 with heap := s2.heap.push { cls := .type "list", data := .seq ([] : List Value).toArray } } := ⟨_, rfl⟩
  have e3h : s3.heap = s2.heap.push { cls := .type "list", data := .seq ([] : List Value).toArray } := by rw [e3]
  rw [← e3] at J3 ⊢
  rw [← e3h] at f3 t3
  have J4 := inv_blkH J3 ok hN hp.2 f3
  have pg := hg s3 H3 s3.heap.objs.size (cellsFrom (s3.heap.objs.size + 1) sc.names (cloFrom X.env.cells sc.names [])) fp
  have ps := ht s3 H3 s3.heap.objs.size (cellsFrom (s3.heap.objs.size + 1) sc.names (cloFrom X.env.cells sc.names [])) fp
  have pe := he s3 H3 s3.heap.objs.size (cellsFrom (s3.heap.objs.size + 1) sc.names (cloFrom X.env.cells sc.names [])) fp
  have t4 : tn 0 (pushCells (s3.heap.push { cls := .type "dict", data := .dict #[] }) sc.names) := T.keep _ _ _ t3 fun b _ o e => pushCells_keeps _ _ _ _ (Heap.get?_push_of_some _ e)
  show codeAny _ _ (.compStart (.ListComp elt [⟨tg, iter, ifs, 0⟩] sc pos) 0 (.ref it) (.ref D) (compEnvC sc (cellsFrom (s3.heap.objs.size + 1) sc.names (cloFrom X.env.cells sc.names [])) s3.heap.objs.size X.env)) (compPost (model X.prog X.w) X.A X.xe none _ (.ref D) s3.heap.objs.size) { s3 with heap := pushCells (s3.heap.push { cls := .type "dict", data := .dict #[] }) sc.names }
  obtain ⟨ce, hce⟩ : ∃ ce, ce = compEnvC sc (cellsFrom (s3.heap.objs.size + 1) sc.names (cloFrom X.env.cells sc.names [])) s3.heap.objs.size X.env := ⟨_, rfl⟩
  have loc : ce.locals = s3.heap.objs.size := by
    rw [hce]
    rfl
  rw [← hce] at J4 pg ps pe ⊢
  obtain ⟨s4, e4⟩ : ∃ s4 : Shared, s4 = { s3 with heap := pushCells (s3.heap.push { cls := .type "dict", data := .dict #[] }) sc.names } := ⟨_, rfl⟩
  have e4h : s4.heap = pushCells (s3.heap.push { cls := .type "dict", data := .dict #[] }) sc.names := by rw [e4]
  rw [← e4h] at t4
  rw [← e4] at J4 ⊢
  obtain ⟨Y, hY⟩ : ∃ Y, Y = blkH X s3 H3 sc ce fp pt := ⟨_, rfl⟩
  have hot : HotC Y := by
    rw [hY]
    exact ⟨pt, hp.1, List.mem_singleton.mpr rfl⟩
  have foot : ∀ {σ' : L2.St} {H' : Hp} {s' : Shared}, Inv Y [] σ' H' s' → (∀ b ∈ fp, H' b = none) → ∀ b ∈ fp, FpOk Y [] H' b := fun {σ' H' s'} I' hn b hb => by
    subst hY
    refine ⟨hn b hb, (I'.ok.exf b hb).1, I'.ok.exfs b hb, .inl hb, (I'.ok.exf b hb).2, fun q hq => ?_⟩
    have e : q = pt := by simpa using (show q ∈ [pt] ++ ([] : List (Addr × Obj)) from hq)
    subst e
    exact (f2 b hb).2.2.2.2.2 q (List.mem_append_left _ hp.2)
  have loop : codeAny (model X.prog X.w) X.A (.compLoop (.ListComp elt [⟨tg, iter, ifs, 0⟩] sc pos) 0 (.ref it) (.ref D) ce) (compPost (model X.prog X.w) X.A X.xe none (EP X pins σ Q) (.ref D) s3.heap.objs.size) s4 := by
    refine compLoop_any (fun n s' => ∃ i H', Inv Y [] (wipe σ (own.map (·.2))) H' s' ∧ tn i s'.heap ∧ (∀ b ∈ fp, H' b = none) ∧ W i n H') ?_ m0 ⟨0, H3, by rw [hY]; exact J4, t4, fun b hb => (f3 b hb).1.1, w0⟩
    rintro n s5 ⟨i, H5, J5, t5, n5, w5⟩
    have P1 : Y.prog = X.prog := by rw [hY]
    have P2 : Y.w = X.w := by rw [hY]
    have P3 : Y.K = X.K := by rw [hY]
    have P4 : Y.A = X.A := by rw [hY]
    rcases turn i n H5 w5 with ⟨halt, qq⟩ | ⟨go, Nx, hNx, step⟩
    · have td := T.done Y P1 P2 P3 hot i [] s5 _ H5 (fun _ _ => False) J5 (foot J5 n5) t5 halt
      rw [P4] at td
      refine thnF td fun r s6 y => ?_
      obtain ⟨hr, J6⟩ := y
      subst hr hY
      have J7 : Inv X pins σ H5 s6 := J3.call' (ch := fp) J6.os J6.base J6.hok J6.bare fun b hb => ⟨(f3 b hb).1.2.2.2.1, (f3 b hb).1.2.1, (f3 b hb).1.2.2.2.2.1, (f3 b hb).1.2.2.2.2.2⟩
      have nC : H5 s3.heap.objs.size = none := loc ▸ (J6.free : H5 ce.locals = none)
      obtain ⟨m, hn, _⟩ := J6.loc
      replace hn : s6.heap.Ns ce.locals m := hn
      rw [loc] at hn
      obtain ⟨a0, a1, a2, a3, a4, a5⟩ := J3.fpOk (b := s3.heap.objs.size) (Nat.le_refl _) nC
      exact ⟨m, hn, fun h' sb => ⟨.ref D, H5, J7.turned (t' := s6.toks) (fun b o hb e => (sb.2 b hb).trans e) a0 a1 a3 a4 a5, rfl, qq⟩⟩
    · have ti := T.item Y P1 P2 P3 hot i [] s5 _ H5 (fun _ _ => False) J5 (foot J5 n5) t5 go
      rw [P4] at ti
      refine thnF ti fun r s6 y => ?_
      obtain ⟨u, hr, y⟩ := y
      subst hr
      refine thnF y fun _ s7 y => ?_
      obtain ⟨x, H7, J7, r7, y7, t7, n7⟩ := y
      have J7' := J7.pinned (foot J7 n7) (T.obj _ _ t7)
      subst hY
      refine thnF (pg.run _ s7 _ H7 x u _ J7' r7 (step x H7 y7)) fun _ s8 y => ?_
      obtain ⟨σ8, H8, J8, hw, q8⟩ := y
      refine thnF (ps.run _ s8 σ8 H8 _ J8 q8) fun b s9 y => ?_
      obtain ⟨H9, J9, q9⟩ := y
      have fin : ∀ {s' : Shared} {H' : Hp}, Inv (blkH X s3 H3 sc ce fp pt) ([] ++ pinsAt fp s7.heap) σ8 H' s' → Nx H' → ∃ m, m < n ∧ ∃ i H', Inv (blkH X s3 H3 sc ce fp pt) [] (wipe σ (own.map (·.2))) H' s' ∧ tn i s'.heap ∧ (∀ b ∈ fp, H' b = none) ∧ W i m H' := fun {s' H'} I' nx => by
        obtain ⟨m', hm', w'⟩ := hNx H' nx
        have pin : ∀ b ∈ fp, ∀ o, s7.heap.get? b = some o → s'.heap.get? b = some o ∧ H' b = none := fun b hb o e => by
          have z := I'.pin (b, o) (List.mem_append_right _ (List.mem_append_right _ (mem_pinsAt hb e)))
          exact ⟨z.1, z.2.1⟩
        refine ⟨m', hm', i + 1, H', (I'.unpinned (pins := [])).weak (by rw [← hw, wipe_length]) (fun j v e => ?_), T.keep _ _ _ t7 fun b hb o e => (pin b hb o e).1, fun b hb => ?_, w'⟩
        · exact (wipe_some (hw.symm ▸ e)).1
        · obtain ⟨o, e, _⟩ := T.obj _ _ t7 b hb
          exact (pin b hb o e).2
      cases b with
      | false => exact fin J9 (by simpa using q9)
      | true =>
        rw [if_pos rfl] at q9 ⊢
        refine thnF (pe.run _ s9 σ8 H9 _ J9 q9) fun v s10 y => ?_
        obtain ⟨yv, H10, J10, r10, acc, hD, hz, nx⟩ := y
        exact app_ok (X := blkH X s3 H3 sc ce fp pt) J10 hD hz r10 fun s11 J11 => fin J11 nx
  exact codeAny_compStart_list loop (T.self X.A 0 _ _ _ t4 loop)
end
end Tc
/-! a, b = x, y in an except suite -/
namespace Tc
open PySem PySem.Spec PyProof.Rows L2 L2H HotX
section
variable {prog : Program} {w : World} {A : Around} {E : Value → Shared → Prop} {s : Shared}
/-- StopIteration is made and let go while another exception is handled -/
theorem stop_hot {xa : Addr} {Q : Fin → Shared → Prop} (hot : HotAt A xa s.heap) (hE : ∀ (h' : Heap) (e : Addr), (∀ b o, s.heap.get? b = some o → h'.get? b = some o) → Shared.TypeIs { s with heap := h' } (.ref e) "StopIteration" → E (.ref e) { s with heap := h' }) :
    wpAny (model prog w) A Builtin.SmallTypes.stopIteration Q E s := by
  obtain ⟨hh, o1, v1, h1, d1, c1⟩ := hot
  show wpAny _ _ (newExc (.type "StopIteration") [] >>= _) _ _ _
  refine wpAny_bind ?_
  simp only [newExc, newTuple]
  refine wpAny_bind (wpAny_newObj_type ?_ (by size_fits))
  refine wpAny_bind (m := firstArgMember _ _) (wpAny_of_eq (a := Value.none) (by first | rfl | (simp only [firstArgMember]; rfl)) (wpAny_newObj_type ?_ (by size_fits)))
  refine raiseNew_hot ⟨hh, o1, v1, Heap.get?_push_of_some _ (Heap.get?_push_of_some _ h1), d1, c1⟩ (Nat.ne_of_lt (Heap.lt_size (Heap.get?_push_of_some _ h1))) (Heap.get?_push_size _ rfl) rfl (by first | (simp; done) | (simp; omega)) (hE _ _ (fun b o e => ?_) ⟨_, Heap.get?_update_self _ (Heap.get?_push_size _ rfl) rfl, rfl⟩)
  have lt := Heap.lt_size (Heap.get?_push_of_some { cls := .type "tuple", data := .seq ([] : List Value).toArray } e)
  rw [Heap.get?_update_other _ _ (Nat.ne_of_gt lt)]
  exact Heap.get?_push_of_some _ (Heap.get?_push_of_some _ e)
/-- a tuple's iterator at its end, an exception being handled -/
theorem tup_end_hot {it t xa : Addr} {i : Nat} {its : Array Value} {Q : Option Value → Shared → Prop} (hot : HotAt A xa s.heap) (hne : xa ≠ it) (hit : IsTupIter s.heap it t i) (ht : IsTup s.heap t its) (hx : its[i]? = none)
    (hQ : ∀ h', Heap.ExtBut it s.heap h' → Q none { s with heap := h' }) :
    wpAny (model prog w) A (pyNext (.ref it)) Q E s := by
  obtain ⟨hh, o1, v1, h1, d1, c1⟩ := hot
  obtain ⟨o, ho, hc, hd⟩ := (show IsTupIter s.heap it t i from hit)
  obtain ⟨ol, hol, _, nl, hl⟩ := ht
  unfold pyNext
  refine wpAny_bind (wpAny_attempt (wpAny_callSpecial?_slot (name := Str.ofString "__next__") hit.typeIs slot_tupleiter_next (wpAny_call_entry slot_tupleiter_next hit.typeIs entry_tupleiter_next (?_ : wpAny _ _ (field (.ref it) 0 >>= _) _ _ s) (args_tupleiter_next _))))
  refine wpAny_bind (wpAny_field ho hd (x := .ref t) rfl (?_ : wpAny _ _ (if (Value.ref t == Value.none) = true then _ else _) _ _ s))
  rw [if_neg (show ¬ (Value.ref t == Value.none) = true by simp)]
  refine (?_ : wpAny _ _ (field (.ref it) 1 >>= _) _ _ s)
  refine wpAny_bind (wpAny_field ho hd (x := .int i 0) rfl ?_)
  refine (?_ : wpAny _ _ (seqItems? (.ref t) >>= _) _ _ s)
  refine wpAny_bind (wpAny_seqItems hol hl ?_)
  simp only [Int.toNat_natCast, hx]
  refine wpAny_bind (wpAny_rule (wpAny_bind (wpAny_setField ho hd (by simp) (stop_hot (xa := xa) ⟨hh, o1, v1, ?_, d1, c1⟩ fun h' e k ty => ?_))))
  · exact (Heap.get?_update_other _ _ (Ne.symm hne)).trans h1
  · refine wpAny_bind (wpAny_isInstance (T := "StopIteration") (b := true) ty isSubtype_stop (wpAny_pure (hQ h' fun b ob hb eb => k b ob ?_)))
    exact (Heap.get?_update_other _ _ (Ne.symm hb)).trans eb
theorem unpack_hot {t xa : Addr} {its : Array Value} {Q : List Value → Shared → Prop} (hot : HotAt A xa s.heap) (ht : IsTup s.heap t its)
    (hQ : ∀ h', Heap.ExtBut s.heap.objs.size s.heap h' → Q its.toList { s with heap := h' }) : wpAny (model prog w) A (unpackItems (.ref t) its.size none) Q E s := by
  have lt : t ≠ s.heap.objs.size := by
    obtain ⟨o, ho, _⟩ := ht
    exact Nat.ne_of_lt (Heap.lt_size ho)
  obtain ⟨hh, o1, v1, h1, r1⟩ := hot
  have lx : xa ≠ s.heap.objs.size := Nat.ne_of_lt (Heap.lt_size h1)
  unfold unpackItems notIterableAtAll
  refine wpAny_bind (wpAny_bind (wpAny_specialOf ht.typeIs slot_tuple_iter.lookup (wpAny_pure ?_)))
  simp only [Bool.false_eq_true, if_false]
  refine wpAny_bind (wpAny_holding (iter_tuple ht (wpAny_bind (wpAny_holding (draw_tuple lt its.size 0 _ _ ⟨_, Heap.get?_push_size _ rfl, rfl, rfl⟩ (ht.push _) (by omega) fun h₁ i1 s1 => ?_)))))
  rw [List.drop_zero, List.take_of_length_le (by simp), if_neg (by simp)]
  refine wpAny_bind (wpAny_holding (tup_end_hot (xa := xa) ⟨hh, o1, v1, (s1.2 xa lx).trans (Heap.get?_push_of_some _ h1), r1⟩ lx i1 ((ht.push _).extBut s1.extBut lt) (by simp) fun h₂ e2 => ?_))
  simp only [Option.isSome_none, Bool.false_eq_true, if_false]
  exact wpAny_pure (hQ h₂ fun b o hb e => e2 b o hb (s1.extBut b o hb (Heap.get?_push_of_some _ e)))
end
section
variable {X : Cx} {pos : Pos}
/-- two names as targets -/
abbrev tg2 (x y : Str) (px py : Pos) (kt : _root_.Nat) (pt : Pos) : Expr := .Tuple [.Name x px, .Name y py] kt pt
theorem pe_never {e : Expr} : PE X e (fun _ _ _ => False) := ⟨fun _ _ _ _ _ _ h => h.elim⟩
/-- x, y = a, b of two local names -/
theorem ps_parH {i j : Nat} {x y : Str} {a b : Expr} {ta : TA} {px py pt : Pos} {kt k2 pt2} (hc : HotC X) (hN : X.N.Nodup) (hi : X.N[i]? = some x) (hj : X.N[j]? = some y) (hij : i ≠ j)
    (hx : X.env.scope.names.lookup x = some .local)
    (hy : X.env.scope.names.lookup y = some .local) (ha : PA X [a, b] ta)
    (hw : swappedStores [tg2 x y px py kt pt] (.Tuple [a, b] k2 pt2) X.env = pure (some [x, y])) (hs : swapsWithSole [tg2 x y px py kt pt] (.Tuple [a, b] k2 pt2) pos.line X.env = pure false := by rfl) :
    PS X (.Assign [tg2 x y px py kt pt] (.Tuple [a, b] k2 pt2) pos) (tPar i j ta) := by
  refine ⟨fun pins s σ H D I h => ?_⟩
  rw [exec_Assign_arm]
  refine wpAny_bind (wpAny_standAt ?_)
  rw [hs]
  refine wpAny_bind (wpAny_pure ?_)
  rw [if_neg Bool.false_ne_true]
  refine wpAny_bind (Tuple_ (thn (ha.run _ pins s σ H _ I h) fun us s1 z => ?_))
  obtain ⟨_, H1, I1, r1, v, u, rfl, q1⟩ := z
  match us, r1 with
  | [u1, u2], .cons rv (.cons ru .nil) =>
    refine wpAny_newObj_type ?_ (show 2 ≤ sizeLine by decide)
    have I2 := I1.kept (t' := s1.toks) fun b o e => Heap.get?_push_of_some { cls := .type "tuple", data := .seq [u1, u2].toArray } e
    obtain ⟨xa, hot⟩ := hc.at I2
    rw [hw]
    refine wpAny_bind (wpAny_pure (?_ : wpAny (model X.prog X.w) X.A (do rule "assign.swapped-stores"; let items ← unpackItems (.ref s1.heap.objs.size) 2 none; assignInOrder [fun v => bindName X.env y v, fun v => bindName X.env x v] items.reverse; pure Flow.next) _ _ _))
    refine wpAny_bind (wpAny_rule (wpAny_bind (unpack_hot (its := #[u1, u2]) hot (IsTup.new s1.heap _) fun h' e' => ?_)))
    have I3 := I2.kept (h' := h') (t' := s1.toks) fun b o e => e' b o (Nat.ne_of_lt (Heap.lt_size e)) e
    refine wpAny_bind (?_ : wpAny _ _ (assignInOrder [fun v => bindName X.env y v, fun v => bindName X.env x v] [u2, u1]) _ _ _)
    refine assignInOrder_cons (wpAny_bindName (store_ok I3 hN hj (.inl hy) ru (fun s2 I4 => assignInOrder_cons (wpAny_bindName (store_ok I4 hN hi (.inl hx) rv (fun s3 I5 => assignInOrder_nil (wpAny_pure ⟨_, H1, ?_, q1⟩)) (.inr hx)))) (.inr hy)))
    rw [List.set_comm _ _ hij]
    exact I5
end
end Tc
/-! exceptions of the text: what is known of a class; raised, told apart by their kinds -/
namespace Tc
open PySem L2 L2H PyProof.Rows Evl NdefX
/-- an own __init__ that keeps a number as its field f -/
def spX1 (C : Addr) (f : Str) : Sp := fun vs H Q _ => ∃ (a : Addr) (i : Int), vs = [.ref a, .int i] ∧ H a = some (exo a C none) ∧ i.natAbs.log2 < 1920 ∧
  ∀ d H', H d = none → d ≠ a → H' a = some (exo a C (some d)) → H' d = some (exd d [(f, .int i)]) → (∀ b o, b ≠ a → H b = some o → H' b = some o) → Q .non H'
/-- what super() asks of a def of a class -/
structure SupF (P : Program) (K : PySem.W.Frag) (mg : Str → Option Value) (C cda : Addr) : Prop where
  cd : ∃ (oc : Obj) (vs : Array Value) (file : Str) (tf : Tok), K.lookup cda = some oc ∧ oc.data = .fields vs ∧ vs[2]? = some (.str file tf) ∧ ((P.main.file : Str) == file) = true
  top : (P.main.scope.names.lookup ("super" : Str)).isSome = false
  mg : mg "super" = none
  cl : ∃ cdC : ClassData, PySem.W.clsIn K C = some cdC
  mr : PySem.W.mroIn K C (.ref C) = some true
  op : PySem.W.nsIn K cStatics "thirdparty.any" = some none
  su : PySem.W.ks_superIn K C C "__init__" = some (some (.builtin "ValueError.__init__"))
  ve : PySem.W.subIn K (.ref C) (.type "ValueError") = some true
theorem text_fits {i : Int} {x : Str} (hx : x.length ≤ 1000) (h : i.natAbs.log2 < 1920) : (x ++ Str.ofString (toString i)).length ≤ sizeLine := by
  have e0 := int_text_length_le (k := 1920) (by decide) h
  have e2 := PySem.ofString_length (toString i)
  rw [Str.length_append, sizeLine_eq]
  omega
/-- an exception of the text under its name, with what its __init__ keeps -/
def OwnE (P : Program) (w : World) (K : PySem.W.Frag) (mg : Str → Option Value) (base : Heap) (x : Str) (C : Addr) (ps : List Str) (k : Nat) (sp : Sp) : Prop :=
  ∃ (f : Addr) (fd : FuncData), FnOk P w K mg base CX0 k f fd ps sp ∧ OexC K C ∧ PySem.W.findIn K (.ref C) "__init__" = some (some (.ref f)) ∧ PySem.W.typeIn K (.ref f) = some (.type "function") ∧ mg x = some (.ref C) ∧ Binds K fd ps []
theorem ps_raiseE {X : Cx} {W : WX} {x : Str} {C : Addr} {ps : List Str} {k j : Nat} {sp : Sp} {e : Expr} {es : List Expr} {t : TA} {p pos pos' : Pos} (d : OwnE X.prog X.w X.K X.mg X.base x C ps k sp) (hc : X.calm = true) (tk : L2N.Takes X W) (hr : Room j X.A) (hj : k + 1 ≤ j) (hg : Gl X x) (ha : PA X (e :: es) t)
    (hdb : (x == ("__debug__" : Str)) = false := by decide)
    (he : starEach (e :: es) X.env = (false, eval e X.env) :: starEach es X.env := by rfl) (hpl : (backTo pos (starEach es X.env)).any (·.1) = false := by rfl) :
    PS X (.Raise (some (.Call (.Name x p) (e :: es) [] pos)) none pos') (fun _ σ H => tMkO C sp [] t σ H fun cls d H' => W cls d σ H') := by
  obtain ⟨f, fd, F, T, i, ty, hm, hb⟩ := d
  exact L2N.ps_raise hc tk (pmkN T i ty F (hr.mono hj) hb pass0 hg hm ha hdb he hpl)
def clN : List Str := ["AskedError", "ToldError", "Ended", "Held", "NoChange", "NoKey", "NoLife", "NoName", "NoPlace", "NoReading", "NoRow", "NoRows", "NoStretch", "NoTable", "NoTaker", "NoText", "NotAsked", "NotEnded", "NothingLeft", "NotOnWire", "NotSure", "TooMany", "Trimmed", "Twice", "Waits"]
def kdN : List Str := ["asked ", "told ", "Ended", "Held", "NoChange", "NoKey", "NoLife", "NoName", "NoPlace", "NoReading", "NoRow", "NoRows", "NoStretch", "NoTable", "NoTaker", "NoText", "NotAsked", "NotEnded", "NothingLeft", "NotOnWire", "NotSure", "TooMany", "Trimmed", "Twice", "Waits", "+"]
/-- which of the classes an exception of D is -/
structure Kd (K : PySem.W.Frag) (mg : Str → Option Value) (D : Addr) (fl : List Bool) : Prop where
  ck : ExK K D
  one : ∀ i x, clN[i]? = some x → ∃ c, mg x = some (.ref c) ∧ PySem.W.kitOne K (.ref D) (.ref c) = some (fl.getD i false)
  ve : PySem.W.kitOne K (.ref D) (.type "ValueError") = some (fl.getD 25 false)
def kindsL (fl : List Bool) : List Str := ((List.range 26).filter (fl.getD · false)).map (kdN.getD · "")
def spKinds (K : PySem.W.Frag) (mg : Str → Option Value) : SpP := fun p vs H Q _ => ∃ (D : Addr) (d : Option Addr) (fl : List Bool), vs = [.ref p.1] ∧ Kd K mg D fl ∧ IsEx D d p ∧ (∀ a, d = some a → ∃ fs, H a = some (.xd fs)) ∧ ∀ H', Ex H H' → Q (.str (Txt.join "" (kindsL fl))) H'
def tIs (pt : Addr × Obj) (d : Option Addr) (b : Bool) (te : TE) : TE := fun σ H Q => te σ H fun v H1 => v = .ref pt.1 ∧ (∀ a, d = some a → ∃ fs, H1 a = some (.xd fs)) ∧ Q (.bl b) H1
theorem xs_ex {d : Option Addr} {H H' : Hp} (x : Ex H H') (h : ∀ a, d = some a → ∃ fs, H a = some (.xd fs)) : ∀ a, d = some a → ∃ fs, H' a = some (.xd fs) := fun a e => by
  obtain ⟨fs, y⟩ := h a e
  exact ⟨fs, x a _ y⟩
theorem ev_is1 {pt : Addr × Obj} {d : Option Addr} {b : Bool} {te : TE} {σ : L2.St} {H : Hp} (h : Ev te σ H (.ref pt.1)) (hd : ∀ a, d = some a → ∃ fs, H a = some (.xd fs)) : Ev (tIs pt d b te) σ H (.bl b) := fun H1 e Q q => h H1 e _ fun H2 e2 => ⟨rfl, xs_ex (e.trans e2) hd, q H2 e2⟩
theorem el_catV {p : Addr} {xs ys : List V} {ta tb : TE} {σ : L2.St} {H : Hp} (ha : Ev ta σ H (.ref p)) (hp : H p = some (.lst xs)) (hb : EvL tb σ H ys) (hl : xs.length + ys.length ≤ 100000) : EvL (tOp rCat ta tb) σ H (xs ++ ys) := fun H1 e Q q =>
  ha H1 e _ fun H2 e2 => hb H2 (e.trans e2) _ fun p2 H3 n2 e3 h3 => ⟨p, p2, xs, ys, rfl, rfl, (e2.trans e3) p _ (e p _ hp), h3, sz_of hl, fun l hn => q l _ (fresh_back (e2.trans e3) hn) ((e2.trans e3).trans (Ex.new hn)) upd_same⟩
section
variable {X : Cx} {D : Addr} {d : Option Addr} {pt : Addr × Obj} {y : Str} {te : TE} {p p1 p2 pos : Pos} {b : Bool}
theorem pe_is1 {x : Str} {i : Nat} (C : ExK X.K D) (hp : pt ∈ X.pn) (hx : IsEx D d pt) (gi : Gl X "isinstance") (ni : X.mg "isinstance" = none) (g : Gl X x) (hm : ∃ c, X.mg x = some (.ref c) ∧ PySem.W.kitOne X.K (.ref D) (.ref c) = some b) (he : PE X (.Name y p1) (tVar i))
    (hd : (x == ("__debug__" : Str)) = false := by decide) : PE X (.Call (.Name "isinstance" p) [.Name y p1, .Name x p2] [] pos) (tIs pt d b (tVar i)) := by
  obtain ⟨c, hm, hk⟩ := hm
  have r := pe_callB (pos := pos) (p := p) (call_isP C hp hx) gi ni boot_isinstance (pa_cons he (pa_cons (pe_glob (pos := p2) (v := .ref c) g hm rfl hd) pa_nil))
  refine ⟨fun pins s σ H Q I h => r.run pins s σ H Q I ?_⟩
  obtain ⟨v, h1, rfl, h2, q⟩ := h
  exact ⟨_, h1, .ref c, .ref c, b, rfl, fun u z => z, h2, hk, q⟩
theorem pe_isV {i : Nat} (C : ExK X.K D) (hp : pt ∈ X.pn) (hx : IsEx D d pt) (gi : Gl X "isinstance") (ni : X.mg "isinstance" = none) (g : Gl X "ValueError") (hm : X.mg "ValueError" = none) (hk : PySem.W.kitOne X.K (.ref D) (.type "ValueError") = some b) (he : PE X (.Name y p1) (tVar i)) : PE X (.Call (.Name "isinstance" p) [.Name y p1, .Name "ValueError" p2] [] pos) (tIs pt d b (tVar i)) := by
  have r := pe_callB (pos := pos) (p := p) (call_isP C hp hx) gi ni boot_isinstance (pa_cons he (pa_cons (pe_bltn (pos := p2) (v := .ty "ValueError") g hm PyProof.Rows.Boot.«ValueError» rfl) pa_nil))
  refine ⟨fun pins s σ H Q I h => r.run pins s σ H Q I ?_⟩
  obtain ⟨v, h1, rfl, h2, q⟩ := h
  exact ⟨_, h1, .ty "ValueError", .type "ValueError", b, rfl, fun u z => z, h2, hk, q⟩
end
theorem sum_le {l : List Str} (h : ∀ y ∈ l, y.length ≤ 20) : (l.map (·.length)).sum ≤ 20 * l.length := by
  induction l with
  | nil => exact Nat.le_refl _
  | cons a l ih =>
    have h1 := h a List.mem_cons_self
    have h2 := ih fun y m => h y (List.mem_cons_of_mem _ m)
    rw [List.map_cons, List.sum_cons, List.length_cons]
    omega
theorem kd_len : ∀ i, (kdN.getD i "").length ≤ 20 := fun i => by
  have all : ∀ y ∈ kdN, y.length ≤ 20 := by decide +kernel
  rw [List.getD_eq_getElem?_getD]
  cases e : kdN[i]? with
  | none => exact (by decide +kernel : (Str.ofString "").length ≤ 20)
  | some y => exact all y (List.mem_of_getElem? e)
theorem kinds_len (fl : List Bool) : (kindsL fl).length ≤ 26 := by
  unfold kindsL
  rw [List.length_map]
  exact Nat.le_trans (List.length_filter_le _ _) (by rw [List.length_range]; exact Nat.le_refl _)
theorem flags_eq (g : Nat → V) : [g 0, g 1, g 2, g 3] ++ [g 4, g 5, g 6, g 7] ++ [g 8, g 9, g 10, g 11] ++ [g 12, g 13, g 14, g 15] ++ [g 16, g 17, g 18] ++ [g 19, g 20, g 21, g 22] ++ [g 23, g 24, g 25] = (List.range 26).map g := rfl
theorem kinds_end {K : PySem.W.Frag} {H : Hp} {p6 p9 : Addr} {fl : List Bool} {v : V} {D : Ends} (h6 : H p6 = some (.lst ((List.range 26).map fun i => V.bl (fl.getD i false)))) (h9 : H p9 = some (.lst (kdN.map V.str))) (q : ∀ H', Ex H H' → D.rt (.str (Txt.join "" (kindsL fl))) H') :
    tRet (tM1 (fun x xs H Q => ∃ a p, ∃ ys : List Str, x = .str a ∧ xs = [.ref p] ∧ (SqL K H p (ys.map V.str) ∨ SqT K H p (ys.map V.str)) ∧ (ys.map (·.length)).sum + ys.length * a.length ≤ 16777216 ∧ Q (.str (Txt.join a ys)) H) (tC (.str "")) (tLc (iRng1 (tCons (tC (.int 26)) tNil)) (gName 3) (tB (tOp (rIxL K) (tVar 1) (tVar 3))) (tOp (rIxL K) (tVar 2) (tVar 3)) [3])) D [some v, some (.ref p6), some (.ref p9), none] H := by
  refine ⟨⟨_, rfl⟩, ?_⟩
  have hS : ∀ i : Nat, i < 26 → ((List.range 26).map fun i => V.bl (fl.getD i false))[i]? = some (.bl (fl.getD i false)) := fun i hi => by
    rw [List.getElem?_map, List.getElem?_range hi]
    rfl
  have hW : ∀ i : Nat, i < 26 → (kdN.map V.str)[i]? = some (.str (kdN.getD i "")) := fun i hi => by
    have hi2 : i < kdN.length := hi
    rw [List.getElem?_map, List.getD_eq_getElem?_getD, List.getElem?_eq_getElem hi2]
    rfl
  refine el_lcR1 (n := 26) (σ := [some v, some (.ref p6), some (.ref p9), none]) (fun i => fl.getD i false) (fun i => V.str (kdN.getD i "")) (ea_cons ev_c ea_nil) (by decide) (fun x => rfl) (fun i H1 e hi => et_B (ev_lx (ev_var rfl) (ev_var rfl) (sq_of (e p6 _ h6)) (hS i (by omega)))) (fun i H1 e hi _ => ev_lx (ev_var rfl) (ev_var rfl) (sq_of (e p9 _ h9)) (hW i (by omega))) H (Ex.refl _) _ fun pl Hl nl el hl => ?_
  refine ⟨"", pl, kindsL fl, rfl, rfl, .inl (sq_of ?_), ?_, q Hl el⟩
  · rw [hl]
    unfold kindsL given
    rw [List.map_map]
    rfl
  · have a := sum_le (l := kindsL fl) fun y m => by
      obtain ⟨i, _, rfl⟩ := List.mem_map.mp m
      exact kd_len i
    have b := kinds_len fl
    have c : (Str.ofString "").length = 0 := by decide +kernel
    rw [c]
    omega
/-- what the exceptions of class C are called -/
structure ExC (K : PySem.W.Frag) (mg : Str → Option Value) (x : Str) (C : Addr) (fl : List Bool) : Prop where
  kd : Kd K mg C fl
  xf : XfC K C
  em : PySem.W.exmOne K (.ref C) (.ref C) = some true
  nm : mg x = some (.ref C)
def tKn (K : PySem.W.Frag) (mg : Str → Option Value) (a : Addr) (cls : Value) (d : Option Addr) (i : Nat) : TE := fun σ H Q => σ[i]? = some (some (.ref a)) ∧ ∃ (D : Addr) (fl : List Bool), cls = .ref D ∧ Kd K mg D fl ∧ (∀ b, d = some b → ∃ fs, H b = some (.xd fs)) ∧ ∀ H', Ex H H' → Q (.str (Txt.join "" (kindsL fl))) H'
theorem hot_suite {X : Cx} {a : Addr} {oe : Obj} {cls : Value} {d : Option Addr} {pn : List (Addr × Obj)} (hz : L2N.Zn cls d oe) (hf : ∃ vs, oe.data = .fields vs) : HotP (X.suite a ((a, oe) :: pn)) (a, oe) := by
  obtain ⟨vs, hv⟩ := hf
  exact ⟨⟨rfl, vs, hv, hz.2.2 vs hv⟩, List.mem_cons_self⟩
theorem pe_kn {X : Cx} {a : Addr} {oe : Obj} {cls : Value} {d : Option Addr} {pn : List (Addr × Obj)} {i j k : Nat} {y : Str} {p p1 pos : Pos} (hz : L2N.Zn cls d oe) (hf : ∃ vs, oe.data = .fields vs) (dK : OwnP X.prog X.w X.K X.mg X.base "_law_kinds" ["e"] k (spKinds X.K X.mg)) (hr : Room j X.A) (hj : k ≤ j) (hg : Gl X "_law_kinds") (he : PE (X.suite a ((a, oe) :: pn)) (.Name y p1) (tVar i)) :
    PE (X.suite a ((a, oe) :: pn)) (.Call (.Name "_law_kinds" p) [.Name y p1] [] pos) (tKn X.K X.mg a cls d i) := by
  have r := pe_ownP (X := X.suite a ((a, oe) :: pn)) (p := p) (pos := pos) dK (hot_suite hz hf) (roomH_mark hr _) hj hg (pa_cons he pa_nil)
  refine ⟨fun pins s σ H Q I h => r.run pins s σ H Q I ?_⟩
  obtain ⟨h1, D, fl, e, kd, hx, q⟩ := h
  subst e
  exact ⟨_, h1, D, d, fl, rfl, kd, ⟨hz.1, hz.2.1, hf⟩, hx, q⟩
/-! by looking -/
def kdB (K : PySem.W.Frag) (D : Addr) (fl : List Bool) : Bool := (List.range 25).all fun i => match PySem.W.nsIn K mainGlobals (clN.getD i "") with
  | some (some (.ref c)) => decide (PySem.W.kitOne K (.ref D) (.ref c) = some (fl.getD i false))
  | _ => false
def exkB (K : PySem.W.Frag) (D : Addr) : Bool := (PySem.W.clsIn K D).isSome && (decide (PySem.W.findIn K (.ref D) "__getattribute__" = some (some (.builtin "BaseException.__getattribute__"))) && (decide (PySem.W.findIn K (.ref D) "__getattr__" = some none) && (decide (PySem.W.subIn K (.ref D) (.type "BaseException") = some true) &&
  (decide (PySem.W.findIn K (.ref D) "__class__" = some (some (.builtin "object.__class__"))) && (decide (PySem.W.specialIn K (.builtin "object.__class__") "__get__" = some (some (.builtin "getset_descriptor.__get__"))) && (decide (PySem.W.takesIn K (.builtin "object.__class__") = some true) && decide (PySem.W.mroIn K D (.type "object") = some true)))))))
theorem exkB_ok {K : PySem.W.Frag} {D : Addr} (h : exkB K D = true) : ExK K D := by
  obtain ⟨y1, h⟩ := Bool.and_eq_true_iff.mp h
  obtain ⟨y2, h⟩ := Bool.and_eq_true_iff.mp h
  obtain ⟨y3, h⟩ := Bool.and_eq_true_iff.mp h
  obtain ⟨y4, h⟩ := Bool.and_eq_true_iff.mp h
  obtain ⟨y5, h⟩ := Bool.and_eq_true_iff.mp h
  obtain ⟨y6, h⟩ := Bool.and_eq_true_iff.mp h
  obtain ⟨y7, y8⟩ := Bool.and_eq_true_iff.mp h
  exact ⟨y1, of_decide_eq_true y2, of_decide_eq_true y3, of_decide_eq_true y4, of_decide_eq_true y5, of_decide_eq_true y6, of_decide_eq_true y7, of_decide_eq_true y8⟩
/-- all that is to be known of a class C, when its kinds are fl -/
def excB (K : PySem.W.Frag) (C : Addr) (fl : List Bool) : Bool := kdB K C fl && (exkB K C && (xfB K C && (decide (PySem.W.kitOne K (.ref C) (.type "ValueError") = some (fl.getD 25 false)) && decide (PySem.W.exmOne K (.ref C) (.ref C) = some true))))
theorem kdB_ok {K : PySem.W.Frag} {h : Heap} {mg : Str → Option Value} {D : Addr} {fl : List Bool} (X : K.In h) (G : h.Ns mainGlobals mg) (e : kdB K D fl = true) : ∀ i x, clN[i]? = some x → ∃ c, mg x = some (.ref c) ∧ PySem.W.kitOne K (.ref D) (.ref c) = some (fl.getD i false) := by
  intro i x hx
  have hi : i < 25 := (List.getElem?_eq_some_iff.mp hx).1
  have e := List.all_eq_true.mp e i (List.mem_range.mpr hi)
  rw [show clN.getD i "" = x by rw [List.getD_eq_getElem?_getD, hx]; rfl] at e
  split at e
  · rename_i c hc
    exact ⟨c, PySem.W.mg_of X G hc, of_decide_eq_true e⟩
  · cases e
theorem excB_ok {K : PySem.W.Frag} {h : Heap} {mg : Str → Option Value} {x : Str} {C : Addr} {fl : List Bool} (X : K.In h) (G : h.Ns mainGlobals mg) (a : PySem.W.nsIn K mainGlobals x = some (some (.ref C))) (e : excB K C fl = true) : ExC K mg x C fl := by
  obtain ⟨y1, h⟩ := Bool.and_eq_true_iff.mp e
  obtain ⟨y2, h⟩ := Bool.and_eq_true_iff.mp h
  obtain ⟨y3, h⟩ := Bool.and_eq_true_iff.mp h
  obtain ⟨y4, y5⟩ := Bool.and_eq_true_iff.mp h
  exact ⟨⟨exkB_ok y2, kdB_ok X G y1, of_decide_eq_true y4⟩, xfB_ok y3, of_decide_eq_true y5, PySem.W.mg_of X G a⟩
/-- what is to be known that it may be made -/
def oexB (K : PySem.W.Frag) (C : Addr) : Bool := decide (PySem.W.findIn K (.ref C) "__setattr__" = some (some (.builtin "object.__setattr__"))) && (decide (PySem.W.subIn K (.ref C) (.type "BaseException") = some true) && (decide (PySem.W.typeIn K (.ref C) = some (.type "type")) && PySem.W.keepIn K (.ref C)))
theorem oexB_ok {K : PySem.W.Frag} {C N : Addr} {nm q : Str} {bs bm : List Value} {sn sub ab col dd k0 k1 k2 k3 k5} (xL : K.lookup C = some (excClassObj nm q C N bs bm true sn sub ab col dd k0 k1 k2 k3 k5 "ValueError.__new__")) (xR : PySem.HandSPX.refsVE bm = true) (e : oexB K C = true) : OexC K C := by
  obtain ⟨y1, h⟩ := Bool.and_eq_true_iff.mp e
  obtain ⟨y2, h⟩ := Bool.and_eq_true_iff.mp h
  obtain ⟨y3, y4⟩ := Bool.and_eq_true_iff.mp h
  exact ⟨⟨nm, q, N, bs, bm, sn, sub, ab, col, dd, k0, k1, k2, k3, k5, xL, xR⟩, of_decide_eq_true y1, of_decide_eq_true y2, of_decide_eq_true y3, y4⟩
/-- what super() asks, by looking -/
def supB (K : PySem.W.Frag) (file : Str) (C cda : Addr) : Bool := (match K.lookup cda with
    | some ⟨_, _, .fields vs, _⟩ => (match (vs[2]? : Option Value) with | some (.str f _) => file == f | _ => false)
    | _ => false) && ((PySem.W.clsIn K C).isSome && (decide (PySem.W.mroIn K C (.ref C) = some true) && (decide (PySem.W.nsIn K cStatics "thirdparty.any" = some none) && (decide (PySem.W.ks_superIn K C C "__init__" = some (some (.builtin "ValueError.__init__"))) && (decide (PySem.W.subIn K (.ref C) (.type "ValueError") = some true) && decide (PySem.W.nsIn K mainGlobals "super" = some none))))))
theorem supB_ok {P : Program} {K : PySem.W.Frag} {h : Heap} {mg : Str → Option Value} {C cda : Addr} (X : K.In h) (G : h.Ns mainGlobals mg) (top : (P.main.scope.names.lookup ("super" : Str)).isSome = false) (e : supB K P.main.file C cda = true) : SupF P K mg C cda := by
  obtain ⟨y1, h⟩ := Bool.and_eq_true_iff.mp e
  obtain ⟨y2, h⟩ := Bool.and_eq_true_iff.mp h
  obtain ⟨y3, h⟩ := Bool.and_eq_true_iff.mp h
  obtain ⟨y4, h⟩ := Bool.and_eq_true_iff.mp h
  obtain ⟨y5, h⟩ := Bool.and_eq_true_iff.mp h
  obtain ⟨y6, y7⟩ := Bool.and_eq_true_iff.mp h
  refine ⟨?_, top, PySem.W.mg_none_of X G (of_decide_eq_true y7), Option.isSome_iff_exists.mp y2, of_decide_eq_true y3, of_decide_eq_true y4, of_decide_eq_true y5, of_decide_eq_true y6⟩
  split at y1
  · rename_i c d vs sl hl
    split at y1
    · rename_i f t hv
      exact ⟨_, vs, f, t, hl, rfl, hv, y1⟩
    · cases y1
  · cases y1
end Tc
/-! data of a known depth: such data can be compared, and are like themselves -/
namespace Tc
open PySem L2 PyProof.Rows Evl
def sd : Nat → PyData → Bool
  | _, .none => true
  | _, .bool _ => true
  | _, .int _ => true
  | _, .str s => PyData.strOk s
  | n + 1, .list xs => xs.all (sd n)
  | n + 1, .tuple xs => xs.all (sd n)
  | _, _ => false
theorem sd_ok : ∀ (n : Nat) (d : PyData), sd n d = true → PyData.canLay0 d = true ∧ d.depth ≤ n ∧ PyData.eqv d d = true := by
  intro n
  induction n with
  | zero =>
    intro d h
    cases d with
    | none => exact ⟨rfl, Nat.le_refl _, rfl⟩
    | bool b => exact ⟨rfl, Nat.le_refl _, by simp [PyData.eqv]⟩
    | int i => exact ⟨rfl, Nat.le_refl _, by simp [PyData.eqv]⟩
    | str s => exact ⟨h, Nat.le_refl _, by simp [PyData.eqv]⟩
    | list xs => cases h
    | tuple xs => cases h
    | dict xs => cases h
  | succ n ih =>
    have all : ∀ xs : List PyData, xs.all (sd n) = true → PyData.canLayAll0 xs = true ∧ PyData.depthAll xs ≤ n ∧ PyData.eqvAll xs xs = true := by
      intro xs
      induction xs with
      | nil => exact fun _ => ⟨rfl, Nat.zero_le _, rfl⟩
      | cons x xs ihx =>
        intro h
        rw [List.all_cons, Bool.and_eq_true] at h
        obtain ⟨a1, a2, a3⟩ := ih x h.1
        obtain ⟨b1, b2, b3⟩ := ihx h.2
        rw [PyData.canLayAll0, PyData.depthAll, PyData.eqvAll, a1, b1, a3, b3]
        exact ⟨rfl, Nat.max_le.mpr ⟨a2, b2⟩, rfl⟩
    intro d h
    cases d with
    | none => exact ⟨rfl, Nat.zero_le _, rfl⟩
    | bool b => exact ⟨rfl, Nat.zero_le _, by simp [PyData.eqv]⟩
    | int i => exact ⟨rfl, Nat.zero_le _, by simp [PyData.eqv]⟩
    | str s => exact ⟨h, Nat.zero_le _, by simp [PyData.eqv]⟩
    | list xs =>
      obtain ⟨a1, a2, a3⟩ := all xs h
      rw [PyData.canLay0, PyData.depth, PyData.eqv]
      exact ⟨a1, by omega, a3⟩
    | tuple xs =>
      obtain ⟨a1, a2, a3⟩ := all xs h
      rw [PyData.canLay0, PyData.depth, PyData.eqv]
      exact ⟨a1, by omega, a3⟩
    | dict xs => cases h
theorem sd_sh {n : Nat} {d : PyData} (h : sd n d = true) (hn : n ≤ 64) : SeqAt.shaped d = true := by
  obtain ⟨a, b, _⟩ := sd_ok n d h
  unfold SeqAt.shaped
  rw [a, decide_eq_true (Nat.le_trans b hn)]
  rfl
theorem sd_eq {n : Nat} {d : PyData} (h : sd n d = true) : PyData.eqv d d = true := (sd_ok n d h).2.2
theorem sd_up {n m : Nat} {d : PyData} (h : sd n d = true) (hm : n ≤ m) : sd m d = true := by
  induction n generalizing m d with
  | zero =>
    cases d <;> cases m <;> first | exact h | rfl | cases h
  | succ n ih =>
    obtain ⟨m, rfl⟩ : ∃ k, m = k + 1 := ⟨m - 1, by omega⟩
    cases d with
    | list xs => exact List.all_eq_true.mpr fun x hx => ih (List.all_eq_true.mp h x hx) (by omega)
    | tuple xs => exact List.all_eq_true.mpr fun x hx => ih (List.all_eq_true.mp h x hx) (by omega)
    | dict xs => cases h
    | none => rfl
    | bool b => rfl
    | int i => rfl
    | str s => exact h
theorem sd_ints (js : List Int) : sd 1 (.list (js.map PyData.int)) = true := List.all_eq_true.mpr fun x hx => by
  obtain ⟨i, _, rfl⟩ := List.mem_map.mp hx
  rfl
theorem sd_rows (rs : List (Int × Int)) : sd 2 (rowsD rs) = true := List.all_eq_true.mpr fun x hx => by
  obtain ⟨i, _, rfl⟩ := List.mem_map.mp hx
  rfl
theorem sd_ch {ks : List Int} {c : PyData} (h : goodCh ks c = true) : sd 1 c = true := by
  unfold goodCh at h
  split at h
  · rename_i s k
    rw [Bool.and_eq_true] at h
    rw [of_decide_eq_true h.1]
    show (PyData.strOk "drop" && (true && true)) = true
    decide +kernel
  · rename_i s k z
    rw [Bool.and_eq_true] at h
    rw [of_decide_eq_true h.1]
    show (PyData.strOk "put" && (true && (true && true))) = true
    decide +kernel
  · cases h
theorem sd_en {ks : List Int} {d : PyData} (h : goodEn ks d = true) : sd 3 d = true := by
  unfold goodEn at h
  split at h
  · rename_i s cs
    rw [Bool.and_eq_true, List.all_eq_true] at h
    rw [of_decide_eq_true h.1]
    show (PyData.strOk "group" && (cs.all (sd 1) && true)) = true
    rw [show cs.all (sd 1) = true from List.all_eq_true.mpr fun c m => sd_ch (h.2 c m)]
    decide +kernel
  · rename_i s i j
    rw [Bool.and_eq_true] at h
    show (PyData.strOk s && (true && (true && true))) = true
    rw [h.2]
    rfl
  · cases h
/-- two things that turn out to be the same data are not unlike -/
theorem ne_ex {K : PySem.W.Frag} {H : Hp} {σ : L2.St} {te tb : TE} {Q : Bool → Hp → Prop} {n : Nat} (S : PyData → Prop) (h : ∀ Q' : VK, (∀ v d H', Ex H H' → Dp K H' v d → S d → Q' v H') → te σ H Q') (hb : ∀ d H1, S d → Ex H H1 → ∀ Q' : VK, (∀ v H', Ex H1 H' → Dp K H' v d → Q' v H') → tb σ H1 Q') (hs : ∀ d, S d → sd n d = true) (hn : n ≤ 64) (q : ∀ H', Ex H H' → Q false H') : tTest (tOp (rNeD K) te tb) σ H Q :=
  h _ fun v d H1 x1 d1 sd1 => hb d H1 sd1 x1 _ fun v2 H2 x2 d2 => ⟨d, d, dp_same x2 _ _ d1, d2, sd_sh (hs d sd1) hn, sd_sh (hs d sd1) hn, by
    rw [sd_eq (hs d sd1)]
    exact ⟨false, rfl, q H2 (x1.trans x2)⟩⟩
theorem ne_sd {K : PySem.W.Frag} {H : Hp} {σ : L2.St} {te tb : TE} {Q : Bool → Hp → Prop} {n : Nat} (d : PyData) (h : ∀ Q' : VK, (∀ v H', Ex H H' → Dp K H' v d → Q' v H') → te σ H Q') (hb : ∀ H1, Ex H H1 → ∀ Q' : VK, (∀ v H', Ex H1 H' → Dp K H' v d → Q' v H') → tb σ H1 Q') (hs : sd n d = true) (hn : n ≤ 64) (q : ∀ H', Ex H H' → Q false H') : tTest (tOp (rNeD K) te tb) σ H Q :=
  ne_ex (fun e => e = d) (fun Q' q' => h Q' fun v H' x y => q' v d H' x y rfl) (fun e H1 z x Q' q' => hb H1 x Q' fun v H' x y => q' v H' x (z ▸ y)) (fun e z => z ▸ hs) hn q
theorem sd_3 {n : Nat} {d e : PyData} {s : Str} (h1 : sd n d = true) (h2 : PyData.strOk s = true) (h3 : sd n e = true) : sd (n + 1) (.tuple [d, .str s, e]) = true := by
  show (sd n d && (sd n (.str s) && (sd n e && true))) = true
  rw [h1, h3, show sd n (.str s) = true by cases n <;> exact h2]
  rfl
/-- a list gone through, made as we please -/
theorem for_of {K : PySem.W.Frag} {tl : TE} {σ : L2.St} {H : Hp} {R : It → Hp → Prop} (k : ∀ Q' : VK, (∀ (a : Addr) (xs : List V) (H1 : Hp), SqL K H1 a xs → R (Itl K a) H1 → Q' (.ref a) H1) → tl σ H Q') : iList K tl σ H R := k _ fun a xs H1 hs w => ⟨a, rfl, ⟨xs, hs⟩, w⟩
theorem lst_of {ta : TA} {σ : L2.St} {H : Hp} {Q : VK} (k : ta σ H fun vs H1 => vs.length ≤ sizeLine ∧ ∀ p, H1 p = none → Q (.ref p) (upd H1 p (.lst vs))) : tLst ta σ H Q := k
theorem cons_of {te : TE} {ta : TA} {σ : L2.St} {H : Hp} {Q : List V → Hp → Prop} (k : te σ H fun v H1 => ta σ H1 fun vs H2 => Q (v :: vs) H2) : tCons te ta σ H Q := k
theorem sd_log {ks : List Int} {ds : List PyData} (h : ∀ d ∈ ds, goodEn ks d = true) : sd 4 (.list ds) = true := List.all_eq_true.mpr fun d m => sd_en (h d m)
end Tc
/-! len(x) of an object of the program's own, by its __len__ -/
namespace Tc
open PySem PySem.Spec PyProof.Rows L2
def rLenO (C : Addr) (sp : Sp) : List V → Hp → VK → Prop := fun vs H Q => ∃ (a dx : Addr) (fs : List (Str × V)), vs = [V.ref a] ∧ H a = some (.ins C dx fs) ∧ sp [.ref a] H (fun v H' => ∃ m : Nat, m ≤ 100000 ∧ v = .int (m : Int) ∧ Q (.int (m : Int)) H') E0
theorem cr_lenO {X : Cx} {C f : Addr} {fd : FuncData} {n : Nat} {sp : Sp} (hr : Room (n + 1) X.A) (hl : Meth X.K C "__len__" f) (F : FnOk X.prog X.w X.K X.mg X.base CX0 n f fd ["self"] sp) (hb : Binds X.K fd ["self"] []) : CallR X (.builtin "len") (rLenO C sp) := by
  intro pins s σ H vs us Q I r ⟨a, dx, fs, e0, ha, hsp⟩
  subst e0
  rw [Vals.ref1 r]
  obtain ⟨_, inst, _⟩ := ins_get I.hok ha
  obtain ⟨_, inst, _⟩ := inst.look
  refine Calls.call_function_entry (kind_len) plain_len entry_len (args_len1 _) ?_
  unfold Builtin.«len»
  refine wpAny_bind (m := oneArg "len" _) (wpAny_pure (wpAny_bind (m := callSpecial? (.ref a) (Str.ofString "__len__")) ?_))
  unfold callSpecial? specialOf
  refine wpAny_bind (wpAny_bind (inst.type.here ((PySem.W.looks_findIn I.kIn hl.at_).here ?_)))
  refine wpAny_holding ?_
  refine wpAny_bind ((PySem.W.bind_fn I.kIn _ (beq_iff_eq.mp hl.fn)).here ?_)
  refine wpAny_bind ?_
  have env : Env0 X.prog X.w X.K X.mg X.base X.A.in1 X.stack s H := by
    have e := I.env0
    exact ⟨e.frames, e.mod, e.bs, e.bsz, e.funs, e.frf, e.hok, e.bare⟩
  have one : Vals [V.ref a] [Value.ref a] := .cons rfl .nil
  refine wpAny_call (codeAny_mono (F.run X.A.in1 X.stack s H ⟨[.ref a], []⟩ [.ref a] [.ref a] _ E0 hr.in1 env (by
    have := hb s [.ref a] I.kIn rfl
    simpa using this) one hsp) fun res s' hq => ?_)
  cases res with
  | error e => exact pass0 pins σ H s e s' I hq
  | ok fl =>
    cases fl with
    | next => exact hq.elim
    | brk => exact hq.elim
    | cont => exact hq.elim
    | ret u =>
      obtain ⟨v, H', I', rv, m, hm, ev, q⟩ := I.after hq
      subst ev
      obtain ⟨t, rfl⟩ := (show ∃ t, u = Value.int (m : Int) t from rv)
      refine wpAny_pure (wpAny_bind (wpAny_holding (wpAny_pure (wpAny_bind (wpAny_letGo ?_)))))
      show wpAny _ _ (if ((m : Nat) : Int) < 0 then _ else _) _ _ _
      rw [if_neg (by omega)]
      show wpAny _ _ (if ((m : Nat) : Int) ≥ 2 ^ 63 then _ else _) _ _ _
      rw [if_neg (by omega)]
      exact wpAny_bind (wpAny_mkInt (wpAny_pure ⟨_, rfl, .int (m : Int), H', I'.tok _, ⟨_, rfl⟩, q⟩))
end Tc
/-! a field as a target among others: x.f, y = .. -/
namespace Tc
open PySem PySem.Spec PyProof.Rows L2
def gFldT (K : PySem.W.Frag) (ta : TE) (f : Str) : TG := fun y σ H Q => ta σ H fun x H2 => ∃ a C dx fs, x = .ref a ∧ H2 a = some (.ins C dx fs) ∧ Cls K C ∧ NoAttr K C f ∧ fs.length < 1000 ∧ Q σ (upd H2 a (.ins C dx (putF f y fs)))
theorem pg_fldT {X : Cx} {o : Expr} {f : Str} {ta : TE} {pos : Pos} (ha : PE X o ta) : PG X (.Attribute o f pos) (gFldT X.K ta f) := by
  refine ⟨fun pins s σ H v u Q I r h => ?_⟩; rw [assign_Attribute]
  refine wpAny_bind (wpAny_holding (thn (ha.run pins s σ H _ I h) fun ov s1 ⟨x, H1, I1, rx, a, C, dx, fs, ex, ea, c, n, l, q⟩ => ?_))
  subst ex; obtain rfl : ov = Value.ref a := rx
  refine wpAny_bind (wpAny_standAt (wpAny_bind (wpAny_holding (setattr_ok I1 ea c n l r fun s3 I3 => ?_))))
  exact wpAny_release ⟨σ, _, I3, q⟩
end Tc
/-! d.update(d2) -/
namespace Tc
open PySem PySem.Spec PyProof.Rows L2
def rDUpd : V → List V → Hp → VK → Prop := fun x vs H Q => ∃ (a b : Addr) (kvs more : List (Key × V)), x = .ref a ∧ vs = [.ref b] ∧ a ≠ b ∧ H a = some (.dK kvs) ∧ H b = some (.dK more) ∧ kvs.length + more.length ≤ 100000 ∧ Q .non (upd H a (.dK (mergeK kvs more)))
theorem mt_dupd {X : Cx} : MtR X "dict.update" rDUpd := by
  intro pins s σ H x vs v us Q I rx rv ⟨a, b, kvs, more, ex, ev, ab, ha, hb, few, q⟩
  subst ex
  subst ev; obtain rfl : v = Value.ref a := rx
  rw [Vals.ref1 rv]
  obtain ⟨z1, s1, vs1, rel1, dd1⟩ := dk_of I.hok ha
  obtain ⟨z2, s2, vs2, rel2, dd2⟩ := dk_of I.hok hb
  have room : 100000 ≤ sizeLine := by decide
  refine call_meetsIn PySem.F.slot_dict_update dd1.typeIs PySem.F.entry_dict_update (PySem.F.args_dict_update_2 _ _) (meets_dict_update (mixKind X.prog X.w) a b ab s2) ⟨vs1, vs2, dd1, dd2, by rw [← rel1.length, ← rel2.length]; omega, fun h' dd' _ hs => ?_⟩
  have he : ∃ o, h'.get? a = some o := let ⟨o, _, _, ho, _⟩ := dd'; ⟨o, ho⟩
  have hl : (mergeK kvs more).length ≤ sizeLine := Nat.le_trans (length_mergeK more kvs) (by omega)
  exact ⟨.non, _, d_write (t' := s.toks) I (by rw [ha]; exact True.intro) hs he (dk_new hl s1 (KV.merge rel2 rel1) dd'), rfl, q⟩
end Tc
/-! a tuple that is written, known to have no dict of its own -/
namespace Tc
open PySem PySem.Spec PyProof.Rows L2
def tTupF (t : TA) : TE := fun σ H Q => t σ H fun xs H1 => xs.length ≤ sizeLine ∧ ∀ (p : Addr) (o : Obj), H1 p = none → o.dict = none → Q (.ref p) (upd H1 p (.frz o (.tup xs)))
theorem pe_tupF {X : Cx} {es : List Expr} {t : TA} {pos : Pos} {x1} (h : PA X es t) : PE X (.Tuple es x1 pos) (tTupF t) := ⟨fun pins s σ H Q I want => by
  refine wpAny_Tuple_spliced (thn (h.run pos pins s σ H _ I want) fun us s1 ⟨xs, H1, I1, r, size, go⟩ => ⟨by rw [← r.length]; exact size, ?_⟩)
  have new := I1.hok.fresh (Nat.le_refl s1.heap.objs.size)
  refine ⟨.ref s1.heap.objs.size, _, I1.laid (a := s1.heap.objs.size) (t' := s1.toks) (fun b u e => Heap.get?_push_of_some _ e) (Nat.le_refl _) ?_, rfl, go _ { cls := .type "tuple", data := .seq us.toArray } new rfl⟩
  exact (show ObjOk X.prog X.w _ _ _ (.frz _ (.tup xs)) from ⟨Heap.get?_push_size _ rfl, size, us, r, IsTup.new _ _⟩)⟩
end Tc
/-! defs with names behind a star that may let an exception out; a part of a tuple that has no dict -/
namespace Tc
open PySem PySem.Spec PyProof.Rows L2
def tCallXN (n m : Nat) (sp : Sp) (E : L2.St → XK) (t tk : TA) : TE := fun σ H Q => t σ H fun vs H1 => tk σ H1 fun zs H2 => vs.length = n ∧ zs.length = m ∧ sp (vs ++ zs) H2 Q (E σ)
/-- called by a name behind the star, or without: then it has its default -/
def OwnXN (P : Program) (w : World) (K : PySem.W.Frag) (mg : Str → Option Value) (base : Heap) (x : Str) (ps : List Str) (n : Nat) (ns : List Str) (dvs : List V) (k : Nat) (sp : Sp) : Prop :=
  ∃ (f : Addr) (fd : FuncData) (ds : List Value), FnOk P w K mg base (L2N.CX P w) k f fd ps sp ∧ mg x = some (.ref f) ∧ PySem.W.keepIn K (.ref f) = true ∧ KBn K fd ps n ns (· ++ ·) (· ++ ·) ∧ Vals dvs ds ∧ Binds K fd ps ds
section
variable {X : Cx} {W : WX} {x : Str} {ps ns : List Str} {dvs : List V} {n k j : Nat} {sp : Sp} {e : Expr} {es : List Expr} {kws : List Keyword} {t tk : TA} {p pos : Pos}
theorem pe_ownXN (d : OwnXN X.prog X.w X.K X.mg X.base x ps n ns dvs k sp) (take : L2N.Takes X W) (hr : Room j X.A) (hj : k ≤ j) (hg : Gl X x) (ha : PA X (e :: es) t) (hkw : PK X kws tk)
    (hall : (backToKw pos (keywordEach kws X.env)).all (·.1.isSome) = true := by rfl)
    (hks : (backToKw pos (keywordEach kws X.env)).filterMap (·.1) = ns := by rfl) (hdb : (x == ("__debug__" : Str)) = false := by decide)
    (he : starEach (e :: es) X.env = (false, eval e X.env) :: starEach es X.env := by rfl)
    (hpl : ((backTo pos (starEach (e :: es) X.env)).any (·.1) || (backToKw pos (keywordEach kws X.env)).any (·.1.isNone)) = false := by rfl) :
    PE X (.Call (.Name x p) (e :: es) kws pos) (tCallXN n ns.length sp (WE W) t tk) := by
  obtain ⟨f, fd, ds, F, hm, hk, hb, _, _⟩ := d
  refine ⟨fun pins s σ H Q I want => wpAny_Call_Name_kw (ld_glob I hg hm (PySem.W.callWith_KW (h₀ := X.base) I.mod.kin hk hall (thn (ha.run pos pins s σ H _ I want) fun us s1 z1 => ?_) hpl he) hdb)⟩
  obtain ⟨vs, H1, I1, r1, go⟩ := z1
  refine thn (hkw.run pos pins s1 σ H1 _ I1 go) fun ws s2 z2 => ?_
  obtain ⟨zs, H2, I2, r2, l1, l2, fin⟩ := z2
  rw [hks]
  refine ⟨I2.kIn, wpAny_call (codeAny_mono (F.run X.A X.stack s2 H2 ⟨us, ns.zip ws⟩ (us ++ ws) (vs ++ zs) Q (WE W σ) (hr.mono hj) I2.env0 (hb.to s2 us ws I2.kIn (r1.length ▸ l1) (r2.length ▸ l2)) (hb.rel r1 r2) fin) fun res s3 z3 => ?_)⟩
  match res, z3 with
  | .error u, z3 => exact L2N.passAt take σ pins H2 s2 u s3 I2 z3
  | .ok (.ret u), z3 => exact I2.after z3
theorem pe_ownXD (d : OwnXN X.prog X.w X.K X.mg X.base x ps n ns dvs k sp) (take : L2N.Takes X W) (hr : Room j X.A) (hj : k ≤ j) (hg : Gl X x) (ha : PA X (e :: es) t)
    (hdb : (x == ("__debug__" : Str)) = false := by decide)
    (he : starEach (e :: es) X.env = (false, eval e X.env) :: starEach es X.env := by rfl) (hpl : (backTo pos (starEach es X.env)).any (·.1) = false := by rfl) :
    PE X (.Call (.Name x p) (e :: es) [] pos) (tCallSD sp dvs (WE W) t) := by
  obtain ⟨f, fd, ds, F, hm, hk, _, hd, hb⟩ := d
  exact pe_callSD F (hr.mono hj) hg hm hk hb hd (fun σ => L2N.passAt take σ) ha hdb he hpl
/-- t[lo:hi], the whole of it t itself, else a tuple without a dict -/
def rSlF (K : PySem.W.Frag) : V → Option Int → Option Int → Hp → VK → Prop := fun x lo hi H Q => ∃ (a : Addr) (xs : List V), x = .ref a ∧ SqT K H a xs ∧
  ((HT.sIx xs.length 0 lo = 0 ∧ HT.sIx xs.length xs.length hi = xs.length) → Q (.ref a) H) ∧ (¬ (HT.sIx xs.length 0 lo = 0 ∧ HT.sIx xs.length xs.length hi = xs.length) → ∀ (p : Addr) (o : Obj), H p = none → o.dict = none → Q (.ref p) (upd H p (.frz o (.tup (cutV xs lo hi)))))
theorem sl_tupF : SlR X (rSlF X.K) := fun pins s σ H x v vl vu lo hi sl Q I rx hs pl pu ⟨a, xs, ex, hx, q1, q2⟩ => by
  by_cases hw : HT.sIx xs.length 0 lo = 0 ∧ HT.sIx xs.length xs.length hi = xs.length
  · exact sl_tupA pins s σ H x v vl vu lo hi sl Q I rx hs pl pu ⟨a, xs, ex, hx, q1, fun no => absurd hw no⟩
  · subst ex
    obtain rfl : v = Value.ref a := rx
    obtain ⟨us, rv, isT, size⟩ := I.tuple hx
    have same : us.toArray.size = xs.length := by
      rw [List.size_toArray]
      exact rv.length.symm
    refine ⟨"tuple", _, PyProof.Rows.slot_tuple_getitem.lookup, isT.typeIs, HT.getItem_tuple_cut isT hs pl pu (same ▸ hw) ?_ (same ▸ size)⟩
    have new := I.hok.fresh (Nat.le_refl s.heap.objs.size)
    rw [same]
    refine ⟨.ref s.heap.objs.size, _, I.laid (a := s.heap.objs.size) (t' := s.toks) (fun b u z => Heap.get?_push_of_some _ z) (Nat.le_refl _) ?_, rfl, q2 hw _ { cls := .type "tuple", data := .seq ((us.drop (HT.sIx xs.length 0 lo)).take (HT.sIx xs.length xs.length hi - HT.sIx xs.length 0 lo)).toArray } new rfl⟩
    exact (show ObjOk X.prog X.w _ _ _ (.frz _ (.tup (cutV xs lo hi))) from ⟨Heap.get?_push_size _ rfl, Nat.le_trans (cutV_length xs lo hi) size, _, (rv.drop (HT.sIx xs.length 0 lo)).take (HT.sIx xs.length xs.length hi - HT.sIx xs.length 0 lo), IsTup.new _ _⟩)
end
end Tc
/-! methods that may let an exception out; a caught exception's fields, its kind among several, in a def that an except suite calls -/
namespace Tc
open PySem PySem.Spec PyProof.Rows L2 L2H
/-- a method by its name, of the instances of C -/
def MethX (P : Program) (w : World) (K : PySem.W.Frag) (mg : Str → Option Value) (base : Heap) (C : Addr) (m : Str) (ps : List Str) (k : Nat) (sp : Sp) : Prop :=
  ∃ (f : Addr) (fd : FuncData), FnOk P w K mg base (L2N.CX P w) k f fd ps sp ∧ Binds K fd ps [] ∧ Meth K C m f
def tMethX (C : Addr) (m : Str) (sp : Sp) (E : L2.St → XK) (ta : TE) (t : TA) : TE := fun σ H Q => ta σ H fun x H1 => ∃ a dx fs, x = .ref a ∧ H1 a = some (.ins C dx fs) ∧ fs.lookup m = none ∧ t σ H1 fun vs H2 => sp (x :: vs) H2 Q (E σ)
section
variable {X : Cx} {C : Addr} {m : Str} {ps : List Str} {k j : Nat} {sp : Sp} {W : WX} {o e : Expr} {es : List Expr} {ta : TE} {t : TA} {pos apos : Pos}
theorem pe_methX {pl : Sem Bool} (d : MethX X.prog X.w X.K X.mg X.base C m ps k sp) (take : L2N.Takes X W) (hr : Room j X.A) (hj : k ≤ j) (c : Cls X.K C) (he : PE X o ta) (ha : PA X (e :: es) t)
    (hst : starEach (e :: es) X.env = (false, eval e X.env) :: starEach es X.env := by rfl)
    (hpl : (backTo pos (starEach es X.env)).any (·.1) = false := by rfl)
    (ht : eval (.Call (.Attribute o m apos) (e :: es) [] pos) X.env = (do
      let v0 ← eval o X.env
      standAt apos.atName
      let (g, g1) ← holding [v0] (getMethod v0 m pl)
      callWith pos g g1 (backTo pos (starEach (e :: es) X.env)) (backToKw pos (keywordEach [] X.env))) := by rfl) :
    PE X (.Call (.Attribute o m apos) (e :: es) [] pos) (tMethX C m sp (WE W) ta t) := by
  obtain ⟨f, fd, F, hb, hm⟩ := d
  refine ⟨fun pins s σ H Q I want => PySem.W.methodCall_KW (pl := pl) (thn (he.run pins s σ H _ I want) fun u s1 z1 => ?_) ht⟩
  obtain ⟨x, H1, I1, rx, a, dx, fs, rfl, ea, nl, go⟩ := z1
  obtain rfl : u = Value.ref a := rx
  refine getmeth_ok I1 ea c hm nl (PySem.W.callWith_K (first := [.ref a]) (h₀ := X.base) I.mod.kin hm.kp (thn (ha.run pos pins s1 σ H1 _ I1 go) fun us s2 z2 => ?_) hst hpl)
  obtain ⟨vs, H2, I2, r, fin⟩ := z2
  have rr : Vals (.ref a :: vs) (.ref a :: us) := .cons rfl r
  have b := hb s2 (.ref a :: us) I2.kIn (by
    rw [List.append_nil, ← rr.length]
    exact F.len _ _ _ _ fin)
  rw [List.append_nil] at b
  refine ⟨I2.kIn, wpAny_call (codeAny_mono (F.run X.A X.stack s2 H2 ⟨.ref a :: us, []⟩ (.ref a :: us) (.ref a :: vs) Q (WE W σ) (hr.mono hj) I2.env0 b rr fin) fun res s3 z3 => ?_)⟩
  match res, z3 with
  | .error u, z3 => exact L2N.passAt take σ pins H2 s2 u s3 I2 z3
  | .ok (.ret u), z3 => exact I2.after z3
end
section
variable {X : Cx} {D : Addr} {d : Option Addr} {p : Addr × Obj}
/-- e.n of the pinned exception -/
def tXp (p : Addr × Obj) (d : Option Addr) (n : Str) (te : TE) : TE := fun σ H Q => te σ H fun x H1 => x = .ref p.1 ∧ ∃ (b : Addr) (fs : List (Str × V)) (v : V), d = some b ∧ H1 b = some (.xd fs) ∧ fs.lookup n = some v ∧ Q v H1
theorem pe_xp {e : Expr} {te : TE} {pos : Pos} {n : Str} (T : XfC X.K D) (hno : PySem.W.findIn X.K (.ref D) n = some none) (hp : p ∈ X.pn) (hx : IsEx D d p) (he : PE X e te)
    (hb : attributeBase e n X.env (eval e X.env) = eval e X.env := by rfl) : PE X (.Attribute e n pos) (tXp p d n te) := by
  refine ⟨fun pins s σ H Q I want => attr_of hb (thn (he.run pins s σ H _ I want) fun u s1 z => ?_)⟩
  obtain ⟨x, H1, I1, rx, rfl, b, fs, v, eb, hb1, hl, go⟩ := z
  obtain rfl : u = Value.ref p.1 := rx
  have here := (I1.pin p (List.mem_append_left _ hp)).1
  obtain ⟨ws, hw⟩ := hx.fs
  obtain ⟨mA, hns, rel⟩ := (show ObjOk X.prog X.w H1 s1.heap b (.xd fs) from I1.hok b _ hb1)
  obtain ⟨ob, hob, look⟩ := lookIn_ns hns
  obtain ⟨uv, hu, ru⟩ := RelO.some_of (v := v) (o := mA n) (hl ▸ rel n)
  have nc : PySem.W.notCls p.2 = true := by
    unfold PySem.W.notCls
    rw [hw]
  have J : PySem.W.InstAt s1.heap p.1 p.2 D (some ob) := ⟨here, hx.cl, nc, by
    rw [hx.di, eb]
    exact hob⟩
  exact HandSPX.exc_get I1.kIn J T.ga T.gg T.exC (PySem.W.findObj_own T.hdC hno rfl (by rw [look, hu])) (handed_of ru) ⟨v, H1, I1.tok _, ru, go⟩
/-- isinstance(e, (A, ..)) of the pinned one -/
def rIsT (K : PySem.W.Frag) (D : Addr) (d : Option Addr) (p : Addr × Obj) : List V → Hp → VK → Prop := fun xs H Q => ∃ (t : Addr) (cs : List Addr) (b : Bool), xs = [.ref p.1, .ref t] ∧ SqT K H t (cs.map V.ref) ∧ (∀ a, d = some a → ∃ fs, H a = some (.xd fs)) ∧ PySem.W.kitAny K (.ref D) (cs.map Value.ref) = some b ∧ Q (.bl b) H
theorem call_isT (C : ExK X.K D) (hp : p ∈ X.pn) (hx : IsEx D d p) : CallR X (.builtin "isinstance") (rIsT X.K D d p) := by
  intro pins s σ H xs us Q I r h
  obtain ⟨t, cs, b, rfl, ht, hd, e, q⟩ := h
  match us, r with
  | [_, u], .cons r1 (.cons r2 .nil) =>
    cases r1
    obtain rfl : u = Value.ref t := r2
    obtain ⟨its, rv, ⟨⟨c0, dd, dat, sl⟩, ho, hc, n, hdat⟩, _⟩ := I.tuple ht
    have ei := refs_at rv
    subst ei
    dsimp only at hc hdat
    subst hc
    subst hdat
    have y := (I.pin p (List.mem_append_left _ hp)).1
    obtain ⟨vs, hv⟩ := hx.fs
    have nc : PySem.W.notCls p.2 = true := by
      unfold PySem.W.notCls
      rw [hv]
    have J : ∃ od, PySem.W.InstAt s.heap p.1 p.2 D od := by
      cases d with
      | none => exact ⟨none, y, hx.cl, nc, by
          rw [hx.di]
          trivial⟩
      | some a =>
        obtain ⟨fs, hd⟩ := hd a rfl
        obtain ⟨mA, hns, _⟩ := (show ObjOk X.prog X.w H s.heap a (.xd fs) from I.hok a _ hd)
        obtain ⟨od, ho, _⟩ := lookIn_ns hns
        exact ⟨some od, y, hx.cl, nc, by
          rw [hx.di]
          exact ho⟩
    obtain ⟨od, J⟩ := J
    exact PySem.W.kia_tup (PySem.W.kitx_exc C.cl C.ga C.gt C.sb C.ca C.cg C.tc C.mo) I.kIn J ho e (fun z => nomatch z) fun tk => ⟨.bl b, H, I.kept (t' := tk) fun _ _ z => z, rfl, q⟩
end
end Tc
/-! an exception of the text without an __init__ of its own; an own class whose __init__ may let an exception out -/
namespace Tc
open PySem PySem.Spec PyProof.Rows L2 L2H
/-- an exception under its name, made of a text -/
def OwnE0 (K : PySem.W.Frag) (mg : Str → Option Value) (x : Str) (C : Addr) (bm : List Value) : Prop :=
  PySem.W.excIn K C bm "ValueError.__new__" = true ∧ mg x = some (.ref C) ∧ PySem.W.keepIn K (.ref C) = true ∧ PySem.W.subIn K (.ref C) (.type "BaseException") = some true ∧ PySem.W.typeIn K (.ref C) = some (.type "type")
section
variable {X : Cx} {W : WX} {x m : Str} {C : Addr} {bm : List Value} {j : Nat} {p p2 pos pos' : Pos}
theorem ps_raise0 (F : ExcBaseFacts "ValueError" "ValueError.__new__" "ValueError.__init__" bm) (d : OwnE0 X.K X.mg x C bm) (hc : X.calm = true) (tk : L2N.Takes X W) (hg : Gl X x) (hdb : (x == ("__debug__" : Str)) = false := by decide) :
    PS X (.Raise (some (.Call (.Name x p) [.Constant (.str m) j p2] [] pos)) none pos') (fun _ σ H => W (.ref C) none σ H) :=
  L2N.ps_raise hc tk (L2N.pmk_own F d.1 d.2.1 d.2.2.1 (raises_own d.2.2.2.1 d.2.2.2.2) hg hdb)
end
/-- C(..), its __init__ may raise -/
def tMakeX (C : Addr) (sp : Sp) (dvs : List V) (E : L2.St → XK) (t : TA) : TE := fun σ H Q => t σ H fun vs H1 => ∀ x dx, H1 x = none → H1 dx = none → dx ≠ x →
  sp (.ref x :: (vs ++ dvs)) (upd (upd H1 dx (.own x)) x (.ins C dx [])) (fun v H2 => v = .non ∧ Q (.ref x) H2) (E σ)
section
variable {X : Cx} {W : WX} {C f : Addr} {fd : FuncData} {ps : List Str} {k j : Nat} {sp : Sp} {dvs : List V} {ds : List Value} {x : Str} {e : Expr} {es : List Expr} {t : TA} {p pos : Pos}
theorem pe_makeX (M : Mk X.K C f) (F : FnOk X.prog X.w X.K X.mg X.base (L2N.CX X.prog X.w) k f fd ps sp) (take : L2N.Takes X W) (hr : Room j X.A) (hj : k + 1 ≤ j) (hg : Gl X x) (hm : X.mg x = some (.ref C)) (hb : Binds X.K fd ps ds) (hd : Vals dvs ds) (ha : PA X (e :: es) t)
    (hdb : (x == ("__debug__" : Str)) = false := by decide)
    (he : starEach (e :: es) X.env = (false, eval e X.env) :: starEach es X.env := by rfl) (hpl : (backTo pos (starEach es X.env)).any (·.1) = false := by rfl) :
    PE X (.Call (.Name x p) (e :: es) [] pos) (tMakeX C sp dvs (WE W) t) := by
  refine ⟨fun pins s σ H Q I want => wpAny_Call_Name_kw (ld_glob I hg hm (PySem.W.callWith_K (h₀ := X.base) I.mod.kin M.kp (thn (ha.run pos pins s σ H _ I want) fun us s1 z1 => ?_) he hpl) hdb)⟩
  obtain ⟨vs, H1, I1, r, go⟩ := z1
  have fin := go (s1.heap.objs.size + 1) s1.heap.objs.size (I1.hok.fresh (Nat.le_succ _)) (I1.hok.fresh (Nat.le_refl _)) (Nat.ne_of_lt (Nat.lt_succ_self _))
  have I2 := Inv.made (C := C) I1
  have rr : Vals (V.ref (s1.heap.objs.size + 1) :: (vs ++ dvs)) (Value.ref (s1.heap.objs.size + 1) :: (us ++ ds)) := .cons rfl (r.append hd)
  have len : (Value.ref (s1.heap.objs.size + 1) :: us ++ ds).length = ps.length := (F.len _ _ _ _ fin) ▸ rr.length.symm
  refine ⟨I1.kIn, wpAny_call (make_map (f := f) I1.kIn M.makes M.init (beq_iff_eq.mp M.fn) (codeAny_mono (F.run _ X.stack _ _ ⟨.ref (s1.heap.objs.size + 1) :: us, []⟩ (.ref (s1.heap.objs.size + 1) :: (us ++ ds)) _ _ (WE W σ) ((hr.mono hj).make C us []) (I2.env0.make C us []) (hb _ (.ref (s1.heap.objs.size + 1) :: us) I2.kIn len) rr fin) fun res s3 z3 => ?_))⟩
  match res, z3 with
  | .error u, z3 => exact L2N.passAt take σ pins _ _ u s3 I2 z3
  | .ok (.ret u), z3 =>
    obtain ⟨v, H', I3, rv, ev, q3⟩ := I2.after z3
    subst ev
    exact ⟨rv, ⟨V.ref (s1.heap.objs.size + 1), H', I3, rfl, q3⟩⟩
end
end Tc
/-! methods that may let an exception out: without a thing handed in, with names behind a star; a class made of nothing -/
namespace Tc
open PySem PySem.Spec PyProof.Rows L2 L2H
section
variable {X : Cx} {C : Addr} {m : Str} {ps ns : List Str} {n k j : Nat} {sp : Sp} {W : WX} {o e : Expr} {es : List Expr} {kws : List Keyword} {ta : TE} {t tk : TA} {pos apos : Pos}
/-- o.m() -/
theorem pe_methX0 {pl : Sem Bool} (d : MethX X.prog X.w X.K X.mg X.base C m ps k sp) (take : L2N.Takes X W) (hr : Room j X.A) (hj : k ≤ j) (c : Cls X.K C) (he : PE X o ta)
    (ht : eval (.Call (.Attribute o m apos) [] [] pos) X.env = (do
      let v0 ← eval o X.env
      standAt apos.atName
      let (g, g1) ← holding [v0] (getMethod v0 m pl)
      callWith pos g g1 (backTo pos (starEach [] X.env)) (backToKw pos (keywordEach [] X.env))) := by rfl) :
    PE X (.Call (.Attribute o m apos) [] [] pos) (tMethX C m sp (WE W) ta tNil) := by
  obtain ⟨f, fd, F, hb, hm⟩ := d
  refine ⟨fun pins s σ H Q I want => PySem.W.methodCall_KW (pl := pl) (thn (he.run pins s σ H _ I want) fun u s1 z1 => ?_) ht⟩
  obtain ⟨x, H1, I1, rx, a, dx, fs, rfl, ea, nl, fin⟩ := z1
  obtain rfl : u = Value.ref a := rx
  have fin : sp [.ref a] H1 Q (WE W σ) := fin
  have rr : Vals [V.ref a] [Value.ref a] := .cons rfl .nil
  have b := hb s1 [.ref a] I1.kIn (by
    rw [List.append_nil, ← rr.length]
    exact F.len _ _ _ _ fin)
  rw [List.append_nil] at b
  refine getmeth_ok I1 ea c hm nl (PySem.W.callWith_K0 (first := [.ref a]) I1.kIn hm.kp (wpAny_call (codeAny_mono (F.run X.A X.stack s1 H1 ⟨[.ref a], []⟩ [.ref a] [.ref a] Q (WE W σ) (hr.mono hj) I1.env0 b rr fin) fun res s3 z3 => ?_)))
  match res, z3 with
  | .error u, z3 => exact L2N.passAt take σ pins H1 s1 u s3 I1 z3
  | .ok (.ret u), z3 => exact I1.after z3
/-- a method with names behind a star, all of them said -/
def MethXN (P : Program) (w : World) (K : PySem.W.Frag) (mg : Str → Option Value) (base : Heap) (C : Addr) (m : Str) (ps : List Str) (n : Nat) (ns : List Str) (k : Nat) (sp : Sp) : Prop :=
  ∃ (f : Addr) (fd : FuncData), FnOk P w K mg base (L2N.CX P w) k f fd ps sp ∧ KBn K fd ps (n + 1) ns (· ++ ·) (· ++ ·) ∧ Meth K C m f
def tMethXN (C : Addr) (m : Str) (n l : Nat) (sp : Sp) (E : L2.St → XK) (ta : TE) (t tk : TA) : TE := fun σ H Q => ta σ H fun x H1 => ∃ a dx fs, x = .ref a ∧ H1 a = some (.ins C dx fs) ∧ fs.lookup m = none ∧ t σ H1 fun vs H2 => tk σ H2 fun zs H3 => vs.length = n ∧ zs.length = l ∧ sp (x :: (vs ++ zs)) H3 Q (E σ)
theorem pe_methXN {pl : Sem Bool} (d : MethXN X.prog X.w X.K X.mg X.base C m ps n ns k sp) (take : L2N.Takes X W) (hr : Room j X.A) (hj : k ≤ j) (c : Cls X.K C) (he : PE X o ta) (ha : PA X (e :: es) t) (hkw : PK X kws tk)
    (hall : (backToKw pos (keywordEach kws X.env)).all (·.1.isSome) = true := by rfl)
    (hks : (backToKw pos (keywordEach kws X.env)).filterMap (·.1) = ns := by rfl)
    (hst : starEach (e :: es) X.env = (false, eval e X.env) :: starEach es X.env := by rfl)
    (hpl : ((backTo pos (starEach (e :: es) X.env)).any (·.1) || (backToKw pos (keywordEach kws X.env)).any (·.1.isNone)) = false := by rfl)
    (ht : eval (.Call (.Attribute o m apos) (e :: es) kws pos) X.env = (do
      let v0 ← eval o X.env
      standAt apos.atName
      let (g, g1) ← holding [v0] (getMethod v0 m pl)
      callWith pos g g1 (backTo pos (starEach (e :: es) X.env)) (backToKw pos (keywordEach kws X.env))) := by rfl) :
    PE X (.Call (.Attribute o m apos) (e :: es) kws pos) (tMethXN C m n ns.length sp (WE W) ta t tk) := by
  obtain ⟨f, fd, F, hb, hm⟩ := d
  refine ⟨fun pins s σ H Q I want => PySem.W.methodCall_KW (pl := pl) (thn (he.run pins s σ H _ I want) fun u s1 z1 => ?_) ht⟩
  obtain ⟨x, H1, I1, rx, a, dx, fs, rfl, ea, nl, go⟩ := z1
  obtain rfl : u = Value.ref a := rx
  refine getmeth_ok I1 ea c hm nl (PySem.W.callWith_KW (first := [.ref a]) (h₀ := X.base) I.mod.kin hm.kp hall (thn (ha.run pos pins s1 σ H1 _ I1 go) fun us s2 z2 => ?_) hpl hst)
  obtain ⟨vs, H2, I2, r1, go2⟩ := z2
  refine thn (hkw.run pos pins s2 σ H2 _ I2 go2) fun ws s3 z3 => ?_
  obtain ⟨zs, H3, I3, r2, l1, l2, fin⟩ := z3
  rw [hks]
  have rr : Vals (V.ref a :: vs) (Value.ref a :: us) := .cons rfl r1
  refine ⟨I3.kIn, wpAny_call (codeAny_mono (F.run X.A X.stack s3 H3 ⟨.ref a :: us, ns.zip ws⟩ (.ref a :: us ++ ws) (.ref a :: vs ++ zs) Q (WE W σ) (hr.mono hj) I3.env0 (hb.to s3 (.ref a :: us) ws I3.kIn (rr.length ▸ (congrArg (· + 1) l1)) (r2.length ▸ l2)) (hb.rel rr r2) fin) fun res s4 z4 => ?_)⟩
  match res, z4 with
  | .error u, z4 => exact L2N.passAt take σ pins H3 s3 u s4 I3 z4
  | .ok (.ret u), z4 => exact I3.after z4
end
section
variable {X : Cx} {W : WX} {C f : Addr} {fd : FuncData} {ps : List Str} {k j : Nat} {sp : Sp} {dvs : List V} {ds : List Value} {x : Str} {p pos : Pos}
theorem pe_makeX0 (M : Mk X.K C f) (F : FnOk X.prog X.w X.K X.mg X.base (L2N.CX X.prog X.w) k f fd ps sp) (take : L2N.Takes X W) (hr : Room j X.A) (hj : k + 1 ≤ j) (hg : Gl X x) (hm : X.mg x = some (.ref C)) (hb : Binds X.K fd ps ds) (hd : Vals dvs ds)
    (hdb : (x == ("__debug__" : Str)) = false := by decide) :
    PE X (.Call (.Name x p) [] [] pos) (tMakeX C sp dvs (WE W) tNil) := by
  refine ⟨fun pins s σ H Q I want => wpAny_Call_Name_kw (ld_glob I hg hm (PySem.W.callWith_K0 I.kIn M.kp ?_) hdb)⟩
  have fin := want (s.heap.objs.size + 1) s.heap.objs.size (I.hok.fresh (Nat.le_succ _)) (I.hok.fresh (Nat.le_refl _)) (Nat.ne_of_lt (Nat.lt_succ_self _))
  have I2 := Inv.made (C := C) I
  have rr : Vals (V.ref (s.heap.objs.size + 1) :: ([] ++ dvs)) ([Value.ref (s.heap.objs.size + 1)] ++ ds) := .cons rfl hd
  have len : (Value.ref (s.heap.objs.size + 1) :: [] ++ ds).length = ps.length := (F.len _ _ _ _ fin) ▸ rr.length.symm
  refine wpAny_call (make_map (f := f) I.kIn M.makes M.init (beq_iff_eq.mp M.fn) (codeAny_mono (F.run _ X.stack _ _ ⟨[.ref (s.heap.objs.size + 1)], []⟩ ([Value.ref (s.heap.objs.size + 1)] ++ ds) _ _ (WE W σ) ((hr.mono hj).make C [] []) (I2.env0.make C [] []) (hb _ [.ref (s.heap.objs.size + 1)] I2.kIn len) rr fin) fun res s3 z3 => ?_))
  match res, z3 with
  | .error u, z3 => exact L2N.passAt take σ pins _ _ u s3 I2 z3
  | .ok (.ret u), z3 =>
    obtain ⟨v, H', I3, rv, ev, q3⟩ := I2.after z3
    subst ev
    exact ⟨rv, ⟨V.ref (s.heap.objs.size + 1), H', I3, rfl, q3⟩⟩
end
end Tc
/-! an object while its fields are laid -/
namespace Tc
open PySem L2 Evl
/-- the object at p on its way: what stood at H0 stays, what came is told in nw -/
structure Ini (C dx p : Addr) (H0 : Hp) (fs : List (Str × V)) (nw : List (Addr × HO)) (H : Hp) : Prop where
  ob : H p = some (.ins C dx fs)
  bb : ∀ a o, a ≠ p → H0 a = some o → H a = some o
  fr : ∀ a, H a = none → H0 a = none
  nws : ∀ q ∈ nw, H q.1 = some q.2 ∧ H0 q.1 = none ∧ q.1 ≠ p
  nd : (nw.map (·.1)).Nodup
section
variable {C dx p : Addr} {H0 H H' : Hp} {fs : List (Str × V)} {nw : List (Addr × HO)}
theorem Ini.start (h : H0 p = some (.ins C dx fs)) : Ini C dx p H0 fs [] H0 := ⟨h, fun _ _ _ z => z, fun _ z => z, fun q m => (by cases m), List.nodup_nil⟩
theorem Ini.ex (I : Ini C dx p H0 fs nw H) (x : Ex H H') : Ini C dx p H0 fs nw H' := ⟨x _ _ I.ob, fun a o n h => x _ _ (I.bb a o n h), fun a h => I.fr a (fresh_back x h), fun q m => ⟨x _ _ (I.nws q m).1, (I.nws q m).2⟩, I.nd⟩
theorem Ini.fld (I : Ini C dx p H0 fs nw H) (gs : List (Str × V)) : Ini C dx p H0 gs nw (upd H p (.ins C dx gs)) := by
  refine ⟨upd_same, fun a o n h => ?_, fun a h => ?_, fun q m => ?_, I.nd⟩
  · rw [upd_ne n]
    exact I.bb a o n h
  · have n : a ≠ p := fun z => by
      rw [z, upd_same] at h
      cases h
    rw [upd_ne n] at h
    exact I.fr a h
  · obtain ⟨h1, h2, h3⟩ := I.nws q m
    exact ⟨by rw [upd_ne h3]; exact h1, h2, h3⟩
theorem Ini.new {d : Addr} {o : HO} (I : Ini C dx p H0 fs nw H) (hd : H d = none) (x : Ex H H') (h : H' d = some o) : Ini C dx p H0 fs ((d, o) :: nw) H' := by
  have J := I.ex x
  refine ⟨J.ob, J.bb, J.fr, fun q m => ?_, ?_⟩
  · rcases List.mem_cons.mp m with rfl | m
    · refine ⟨h, I.fr d hd, fun z => ?_⟩
      have := I.ob
      rw [← z, hd] at this
      cases this
    · exact J.nws q m
  · rw [List.map_cons]
    refine List.nodup_cons.mpr ⟨fun m => ?_, I.nd⟩
    obtain ⟨q, mq, e⟩ := List.mem_map.mp m
    have := (I.nws q mq).1
    rw [e, hd] at this
    cases this
variable {K : PySem.W.Frag} {D : Ends} {σ : L2.St} {te : TE} {v : V} {f : Str} {i : Nat}
/-- self.f = a value -/
theorem ini_c (I : Ini C dx p H0 fs nw H) (hv : Ev te σ H v) (hi : σ[i]? = some (some (.ref p))) (c : Cls K C) (na : NoAttr K C f) (hl : fs.length < 1000) (k : ∀ H', Ini C dx p H0 (putF f v fs) nw H' → D.nx σ H') : sFld K (tVar i) te f D σ H :=
  hv H (Ex.refl H) _ fun H1 x1 => ⟨.ref p, hi, p, C, dx, fs, rfl, x1 _ _ I.ob, c, na, hl, k _ ((I.ex x1).fld _)⟩
/-- self.f = a new thing -/
theorem ini_g {o : HO} (I : Ini C dx p H0 fs nw H) (hv : ∀ Q : VK, (∀ d H1, H d = none → Ex H H1 → H1 d = some o → Q (.ref d) H1) → te σ H Q) (hi : σ[i]? = some (some (.ref p))) (c : Cls K C) (na : NoAttr K C f) (hl : fs.length < 1000) (k : ∀ d H', Ini C dx p H0 (putF f (.ref d) fs) ((d, o) :: nw) H' → D.nx σ H') : sFld K (tVar i) te f D σ H :=
  hv _ fun d H1 hd x1 h1 => ⟨.ref p, hi, p, C, dx, fs, rfl, x1 _ _ I.ob, c, na, hl, k d _ ((I.new hd x1 h1).fld _)⟩
theorem new_d {Q : VK} {σ : L2.St} {H : Hp} (q : ∀ d H1, H d = none → Ex H H1 → H1 d = some (.dK []) → Q (.ref d) H1) : tDNewK σ H Q := fun d hd => q d _ hd (Ex.new hd) upd_same
theorem new_l {Q : VK} {σ : L2.St} {H : Hp} (q : ∀ d H1, H d = none → Ex H H1 → H1 d = some (.lst []) → Q (.ref d) H1) : tLst tNil σ H Q := ⟨Nat.zero_le _, fun d hd => q d _ hd (Ex.new hd) upd_same⟩
end
theorem putF_le {f : Str} {v : V} : ∀ {fs : List (Str × V)} {n : Nat}, fs.length ≤ n → (putF f v fs).length ≤ n + 1
  | [], n, _ => by show 1 ≤ n + 1; omega
  | (g, x) :: r, n, h => by
    show (if g = f then _ else _ : List (Str × V)).length ≤ n + 1
    split
    · rw [List.length_cons] at h ⊢
      omega
    · rw [List.length_cons] at h ⊢
      cases n with
      | zero => omega
      | succ n =>
        have := putF_le (f := f) (v := v) (fs := r) (n := n) (by omega)
        omega
end Tc
/-! a house: its fields and what they hold -/
namespace Tc
open PySem L2 Evl
def hfl (dW dK : Addr) (fk lg bg : Int) (dL dR : Addr) : List (Str × V) := [("worths", .ref dW), ("kept", .ref dK), ("first_kept", .int fk), ("lives_given", .int lg), ("begun", .int bg), ("living", .ref dL), ("running", .ref dR)]
section
variable (dW dK : Addr) (fk lg bg : Int) (dL dR : Addr)
theorem hl_worths : (hfl dW dK fk lg bg dL dR).lookup ("worths" : Str) = some (.ref dW) := by simp only [hfl, List.lookup]; rfl
theorem hl_kept : (hfl dW dK fk lg bg dL dR).lookup ("kept" : Str) = some (.ref dK) := by simp only [hfl, List.lookup]; rfl
theorem hl_first_kept : (hfl dW dK fk lg bg dL dR).lookup ("first_kept" : Str) = some (.int fk) := by simp only [hfl, List.lookup]; rfl
theorem hl_lives_given : (hfl dW dK fk lg bg dL dR).lookup ("lives_given" : Str) = some (.int lg) := by simp only [hfl, List.lookup]; rfl
theorem hl_begun : (hfl dW dK fk lg bg dL dR).lookup ("begun" : Str) = some (.int bg) := by simp only [hfl, List.lookup]; rfl
theorem hl_living : (hfl dW dK fk lg bg dL dR).lookup ("living" : Str) = some (.ref dL) := by simp only [hfl, List.lookup]; rfl
theorem hl_running : (hfl dW dK fk lg bg dL dR).lookup ("running" : Str) = some (.ref dR) := by simp only [hfl, List.lookup]; rfl
theorem hp_worths (z : Addr) : putF "worths" (.ref z) (hfl dW dK fk lg bg dL dR) = hfl z dK fk lg bg dL dR := by simp only [hfl, putF]; rfl
theorem hp_kept (z : Addr) : putF "kept" (.ref z) (hfl dW dK fk lg bg dL dR) = hfl dW z fk lg bg dL dR := by simp only [hfl, putF]; rfl
theorem hp_first_kept (z : Int) : putF "first_kept" (.int z) (hfl dW dK fk lg bg dL dR) = hfl dW dK z lg bg dL dR := by simp only [hfl, putF]; rfl
theorem hp_lives_given (z : Int) : putF "lives_given" (.int z) (hfl dW dK fk lg bg dL dR) = hfl dW dK fk z bg dL dR := by simp only [hfl, putF]; rfl
theorem hp_begun (z : Int) : putF "begun" (.int z) (hfl dW dK fk lg bg dL dR) = hfl dW dK fk lg z dL dR := by simp only [hfl, putF]; rfl
theorem hp_living (z : Addr) : putF "living" (.ref z) (hfl dW dK fk lg bg dL dR) = hfl dW dK fk lg bg z dR := by simp only [hfl, putF]; rfl
theorem hp_running (z : Addr) : putF "running" (.ref z) (hfl dW dK fk lg bg dL dR) = hfl dW dK fk lg bg dL z := by simp only [hfl, putF]; rfl
theorem hfl_made : putF "running" (.ref dR) (putF "living" (.ref dL) (putF "begun" (.int bg) (putF "lives_given" (.int lg) (putF "first_kept" (.int fk) (putF "kept" (.ref dK) (putF "worths" (.ref dW) [])))))) = hfl dW dK fk lg bg dL dR := by
  simp only [hfl, putF]
  rfl
theorem hfl_no {m : Str} (h : (m == ("worths" : Str)) = false ∧ (m == ("kept" : Str)) = false ∧ (m == ("first_kept" : Str)) = false ∧ (m == ("lives_given" : Str)) = false ∧ (m == ("begun" : Str)) = false ∧ (m == ("living" : Str)) = false ∧ (m == ("running" : Str)) = false) : (hfl dW dK fk lg bg dL dR).lookup m = none := by
  obtain ⟨h1, h2, h3, h4, h5, h6, h7⟩ := h
  simp only [hfl, List.lookup, h1, h2, h3, h4, h5, h6, h7]
end
/-- a house at p -/
structure HsAt (C : Addr) (H : Hp) (p dW dK dL dR : Addr) (kvs : List (Key × V)) (kept : List V) (fk lg bg : Int) (liv run : List (Key × V)) : Prop where
  ob : ∃ dx, H p = some (.ins C dx (hfl dW dK fk lg bg dL dR))
  wo : H dW = some (.dK kvs)
  ke : H dK = some (.lst kept)
  li : H dL = some (.dK liv)
  ru : H dR = some (.dK run)
  n1 : dW ≠ dL
  n2 : dW ≠ dR
  n3 : dL ≠ dR
section
variable {C : Addr} {H H' : Hp} {p dW dK dL dR : Addr} {kvs : List (Key × V)} {kept : List V} {fk lg bg : Int} {liv run : List (Key × V)}
theorem HsAt.ex (S : HsAt C H p dW dK dL dR kvs kept fk lg bg liv run) (x : Ex H H') : HsAt C H' p dW dK dL dR kvs kept fk lg bg liv run :=
  ⟨let ⟨dx, h⟩ := S.ob; ⟨dx, x _ _ h⟩, x _ _ S.wo, x _ _ S.ke, x _ _ S.li, x _ _ S.ru, S.n1, S.n2, S.n3⟩
theorem HsAt.pne (S : HsAt C H p dW dK dL dR kvs kept fk lg bg liv run) : dW ≠ p ∧ dK ≠ p ∧ dL ≠ p ∧ dR ≠ p := by
  obtain ⟨dx, hp⟩ := S.ob
  refine ⟨fun z => ?_, fun z => ?_, fun z => ?_, fun z => ?_⟩
  · have := S.wo
    rw [z, hp] at this
    cases this
  · have := S.ke
    rw [z, hp] at this
    cases this
  · have := S.li
    rw [z, hp] at this
    cases this
  · have := S.ru
    rw [z, hp] at this
    cases this
theorem HsAt.kne (S : HsAt C H p dW dK dL dR kvs kept fk lg bg liv run) : dW ≠ dK ∧ dL ≠ dK ∧ dR ≠ dK := by
  refine ⟨fun z => ?_, fun z => ?_, fun z => ?_⟩
  · have := S.wo
    rw [z, S.ke] at this
    cases this
  · have := S.li
    rw [z, S.ke] at this
    cases this
  · have := S.ru
    rw [z, S.ke] at this
    cases this
end
/-- what is known of the class -/
structure HTx (K : PySem.W.Frag) (mg : Str → Option Value) (C : Addr) : Prop where
  cl : Cls K C
  aW : NoAttr K C "worths"
  aK : NoAttr K C "kept"
  aF : NoAttr K C "first_kept"
  aG : NoAttr K C "lives_given"
  aB : NoAttr K C "begun"
  aL : NoAttr K C "living"
  aR : NoAttr K C "running"
  mgC : mg "House" = some (.ref C)
end Tc
/-! xs += ys of lists; range by twos -/
namespace Tc
open PySem PySem.Spec PyProof.Rows L2
theorem li_seqI : seqSlot? (.type "list") (dunderI "add") = pure (some (.builtin "list.__iadd__")) := PySem.seqSlot_of PySem.F.slot_list_iadd.lookup (by decide +kernel)
theorem li_fillI : fillsInplaceSlot (.type "list") "add" (Operator.Add == .Add) = pure false := by
  unfold fillsInplaceSlot
  have e : isSeqSlot (some (.builtin "list.__iadd__")) = true := by decide +kernel
  show (typeLookup (.type "list") (dunderI "add") >>= fun z => pure (z.isSome && !isSeqSlot z)) = pure false
  rw [PySem.F.slot_list_iadd.lookup, pure_bind, e]
  rfl
theorem li_iadd {M : Model} {A : Around} {E : Value → Shared → Prop} {s : Shared} {a b : Value} {Q : Value → Shared → Prop} (ha : s.TypeIs a "list") (hb : s.TypeIs b "list") (go : wpAny M A (call (.builtin "list.__iadd__") [a, b]) Q E s) : wpAny M A (inplaceOp .Add a b) Q E s := by
  unfold inplaceOp
  refine wpAny_holding (wpAny_bind (wpAny_typeOf ha (wpAny_bind (wpAny_of_eq li_fillI ?_))))
  rw [if_neg (show ¬ false = true by decide)]
  exact wpAny_bind (wpAny_binaryOp1_none (nm := "add") ha hb noFill_list_add (wpAny_bind (wpAny_of_eq li_seqI (wpAny_bind (wpAny_rule go)))))
/-- a list made longer by another one -/
def ipCat : TIp := fun x y H Q => ∃ (l b : Addr) (xs zs : List V), x = .ref l ∧ y = .ref b ∧ H l = some (.lst xs) ∧ H b = some (.lst zs) ∧ xs.length + zs.length ≤ sizeLine ∧ Q (.ref l) (upd H l (.lst (xs ++ zs)))
theorem ip_cat {X : Cx} : PIp X .Add ipCat := by
  intro pins s σ H x y v u Q I rx ry ⟨l, b, xs, zs, ex, ey, hl, hb, few, q⟩
  subst ex
  subst ey
  obtain rfl : v = Value.ref l := rx; obtain rfl : u = Value.ref b := ry
  obtain ⟨z, its, n, r, _, e⟩ := I.lstM hl
  obtain ⟨z2, its2, n2, r2, _, e2⟩ := I.lstM hb
  have fit : its.toArray.size + its2.toArray.size ≤ sizeLine := by
    simp only [List.size_toArray]; omega
  have nol : ¬ (!its.toArray.isEmpty && Builtin.List.listTooLong (its.toArray.size + its2.toArray.size)) = true := by
    rw [notLongL fit, Bool.and_false]
    decide
  refine li_iadd ⟨_, e, rfl⟩ ⟨_, e2, rfl⟩ (call_meets PySem.F.slot_list_iadd ⟨_, e, rfl⟩ PySem.F.entry_list_iadd (PySem.F.args_list_iadd_2 _ _) (AutoSeq1.list___iadd___list_list_0 l its.toArray n b its2.toArray n2 nol (by rw [List.size_toArray]; omega) (by omega)) ⟨e, e2, ?_⟩)
  exact ⟨.ref l, _, I.lset (its' := its ++ its2) hl e (by simp) (r.append r2) (by rw [List.length_append]; omega), rfl, q⟩
theorem rg_small {m : Int} {j : Int} (e : Builtin.Range.rangeSize 0 j 2 = m) (h0 : 0 ≤ m) (h1 : m < 100000) (h2 : 0 ≤ j) (h3 : j < 1000000) : Builtin.Range.small 0 j 2 = true := by
  unfold Builtin.Range.small
  rw [e]
  simp only [Builtin.Range.rangeFitsLong, Bool.and_eq_true, Bool.or_eq_true, decide_eq_true_eq, beq_iff_eq, show ((2 : Int) > 0) = True from eq_true (by decide), if_true]
  omega
theorem rg_two {n : Nat} (h : n < 100000) : RgC 0 ((2 * n : Nat) : Int) 2 n := by
  have e : Builtin.Range.rangeSize 0 ((2 * n : Nat) : Int) 2 = (n : Int) := by
    unfold Builtin.Range.rangeSize; rw [if_pos (by decide)]
    split <;> omega
  exact ⟨by decide, by decide, rg_small e (by omega) (by omega) (by omega) (by omega), e⟩
/-- a list's comprehension over a range by steps -/
theorem lc_step {lo c : Int} {n : Nat} {g : TG} {tt : TT} {te : TE} {own : List Nat} {σ : L2.St} {H1 : Hp} {D : Addr} {Fin : Hp → Prop} (Pv : Nat → Hp → Prop) (h0 : Pv 0 (upd H1 D (.lst [])))
    (turn : ∀ j G, j < n → Pv j G → g (.int (lo + (j : Nat) * c)) (wipe σ own) G fun τ G2 => wipe τ own = wipe σ own ∧ tt τ G2 fun b G3 => if b = true then (te τ G3 fun y G4 => ∃ acc, G4 D = some (.lst acc) ∧ acc.length < sizeLine ∧ Pv (j + 1) (upd G4 D (.lst (acc ++ [y])))) else Pv (j + 1) G3) (fin : ∀ G, Pv n G → Fin G) :
    ∃ R : Nat → Nat → Hp → Prop, (∃ m, R 0 m (upd H1 D (.lst []))) ∧ ∀ j m G, R j m G → ((L2.Itc lo c n).stop j G ∧ Fin G) ∨ ((L2.Itc lo c n).go j G ∧ ∃ On : Hp → Prop, (∀ G', On G' → ∃ m', m' < m ∧ R (j + 1) m' G') ∧
      ∀ x G', (L2.Itc lo c n).yld j G x G' → g x (wipe σ own) G' fun τ G2 => wipe τ own = wipe σ own ∧ tt τ G2 fun b G3 => if b = true then (te τ G3 fun y G4 => ∃ acc, G4 D = some (.lst acc) ∧ acc.length < sizeLine ∧ On (upd G4 D (.lst (acc ++ [y])))) else On G3) := by
  refine ⟨fun j m G => j ≤ n ∧ m = n - j ∧ Pv j G, ⟨_, Nat.zero_le _, rfl, h0⟩, fun j m G ⟨hj, em, p⟩ => ?_⟩
  rcases Nat.lt_or_ge j n with lt | ge
  · refine .inr ⟨lt, Pv (j + 1), fun G' p' => ⟨n - (j + 1), by omega, by omega, rfl, p'⟩, ?_⟩
    rintro x G' ⟨rfl, rfl⟩
    exact turn j _ lt p
  · obtain rfl : j = n := by omega
    exact .inl ⟨Nat.le_refl _, fin G p⟩
end Tc
/-! what is collected, in its order; a drawn table's rows rise with the keys -/
namespace Tc
open PySem L2 Evl PyProof.Rows
structure ColW (b : Addr) (K : PySem.W.Frag) (W : Nat → List PyData → Prop) (H : Hp) (D : Addr) (i : Nat) (H' : Hp) : Prop where
  fr : Fr b H H'
  new : H D = none
  ne : D ≠ b
  ex : ∃ (vs : List V) (ds : List PyData), H' D = some (.lst vs) ∧ DpAll K (hid D (hid b H')) vs ds ∧ vs.length ≤ i ∧ W i ds
section
variable {b D : Addr} {K : PySem.W.Frag} {W : Nat → List PyData → Prop} {H H' H4 : Hp} {i : Nat} {y : V} {d : PyData}
theorem ColW.start (hB : Bag H b) (hD : H D = none) (w : W 0 []) : ColW b K W H D 0 (upd H D (.lst [])) := ⟨Fr.new hB hD, hD, hB.ne hD, [], [], upd_same, .nil, Nat.le_refl _, w⟩
theorem ColW.skip (c : ColW b K W H D i H') (f : Fr b H' H4) (w : ∀ ds, W i ds → W (i + 1) ds) : ColW b K W H D (i + 1) H4 := by
  obtain ⟨vs, ds, h1, h2, h3, h4⟩ := c.ex
  exact ⟨c.fr.trans f, c.new, c.ne, vs, ds, f.at h1 c.ne, dps_same (same_hid f.sm) _ _ h2, Nat.le_succ_of_le h3, w _ h4⟩
theorem ColW.push (c : ColW b K W H D i H') (f : Fr b H' H4) (hy : Dp K (hid D (hid b H4)) y d) (w : ∀ ds, W i ds → W (i + 1) (ds ++ [d])) (hi : i < 10000) : ∃ acc, H4 D = some (.lst acc) ∧ acc.length < sizeLine ∧ ColW b K W H D (i + 1) (upd H4 D (.lst (acc ++ [y]))) := by
  obtain ⟨vs, ds, h1, h2, h3, h4⟩ := c.ex
  refine ⟨vs, f.at h1 c.ne, sz_lt (by omega), Fr.mut (c.fr.trans f) c.new c.ne, c.new, c.ne, vs ++ [y], ds ++ [d], upd_same, ?_, by rw [List.length_append]; exact Nat.succ_le_succ h3, w _ h4⟩
  rw [hid_upd2 _ _ c.ne]
  exact dps_app (dps_same (same_hid f.sm) _ _ h2) (.cons hy .nil)
theorem ColW.at (c : ColW b K W H D i H') : H' D ≠ none := by
  obtain ⟨vs, ds, h1, _⟩ := c.ex
  exact fun z => by
    rw [h1] at z
    cases z
end
theorem lt_take {ks : List Int} {i : Nat} {kk x : Int} (pw : ks.Pairwise (· < ·)) (h : ks[i]? = some kk) (m : x ∈ ks.take i) : x < kk := by
  have e : ks.take (i + 1) = ks.take i ++ [kk] := by
    rw [List.take_succ, h]
    rfl
  have p := pw.sublist (List.take_sublist (i + 1) ks)
  rw [e] at p
  exact (List.pairwise_append.mp p).2.2 x m kk (List.mem_singleton_self _)
def rowsUp (ks : List Int) (i : Nat) (ds : List PyData) : Prop := ∃ rs : List (Int × Int), ds = rs.map pairD ∧ (∀ r ∈ rs, r.1 ∈ ks.take i ∧ 0 ≤ r.2 ∧ r.2 < 1000) ∧ (ks.Pairwise (· < ·) → rs.Pairwise fun a b => a.1 < b.1)
theorem rowsUp.skip {ks : List Int} {i : Nat} {ds : List PyData} (h : rowsUp ks i ds) : rowsUp ks (i + 1) ds := by
  obtain ⟨rs, e, h1, h2⟩ := h
  refine ⟨rs, e, fun r m => ⟨?_, (h1 r m).2⟩, h2⟩
  have := (h1 r m).1
  rw [List.take_succ]
  exact List.mem_append_left _ this
theorem rowsUp.push {ks : List Int} {i : Nat} {ds : List PyData} {kk w : Int} (h : rowsUp ks i ds) (hk : ks[i]? = some kk) (hw : 0 ≤ w ∧ w < 1000) : rowsUp ks (i + 1) (ds ++ [pairD (kk, w)]) := by
  obtain ⟨rs, e, h1, h2⟩ := h
  refine ⟨rs ++ [(kk, w)], by rw [e, List.map_append]; rfl, fun r m => ?_, fun pw => List.pairwise_append.mpr ⟨h2 pw, List.pairwise_singleton _ _, fun a ma c mc => ?_⟩⟩
  · rw [List.take_succ, hk]
    rcases List.mem_append.mp m with m | m
    · exact ⟨List.mem_append_left _ (h1 r m).1, (h1 r m).2⟩
    · rw [List.mem_singleton.mp m]
      exact ⟨List.mem_append_right _ (List.mem_singleton_self _), hw⟩
  · rw [List.mem_singleton.mp mc]
    exact lt_take pw hk (h1 a ma).1
end Tc
namespace K13
open PySem L2 PyProof.Rows Tc
/-! ### the text -/
def topS (i : Nat) : Stmt := PySem.Challenge.pw_tidecopy_k13_groups_done.main.body.getD i (.Pass ⟨0, 0, 0, 0⟩)
abbrev sNum : Stmt := topS 33
abbrev sKey : Stmt := topS 34
abbrev sWorth : Stmt := topS 35
abbrev sRow : Stmt := topS 36
abbrev sRows : Stmt := topS 37
abbrev sTable : Stmt := topS 38
theorem scNum : FnScope ["thing"] ["thing"] (defScope sNum) := ⟨rfl, rfl, rfl, by decide +kernel, rfl, by decide +kernel, by decide +kernel⟩
theorem scKey : FnScope ["thing"] ["thing"] (defScope sKey) := ⟨rfl, rfl, rfl, by decide +kernel, rfl, by decide +kernel, by decide +kernel⟩
theorem scWorth : FnScope ["thing"] ["thing"] (defScope sWorth) := ⟨rfl, rfl, rfl, by decide +kernel, rfl, by decide +kernel, by decide +kernel⟩
theorem scRow : FnScope ["thing"] ["thing"] (defScope sRow) := ⟨rfl, rfl, rfl, by decide +kernel, rfl, by decide +kernel, by decide +kernel⟩
theorem scRows : FnScope ["thing", "first", "last", "least", "row"] ["thing", "first", "last"] (defScope sRows) := ⟨rfl, rfl, rfl, by decide +kernel, rfl, by decide +kernel, by decide +kernel⟩
theorem scTable : FnScope ["thing"] ["thing"] (defScope sTable) := ⟨rfl, rfl, rfl, by decide +kernel, rfl, by decide +kernel, by decide +kernel⟩
/-- what the module's names hold -/
structure Names (mg : Str → Option Value) : Prop where
  isinstance : mg "isinstance" = none
  int : mg "int" = none
  bool : mg "bool" = none
  tuple : mg "tuple" = none
  list : mg "list" = none
  str : mg "str" = none
  len : mg "len" = none
  set : mg "set" = none
  sorted : mg "sorted" = none
  range : mg "range" = none
  abs : mg "abs" = none
  min : mg "min" = none
  max : mg "max" = none
  dict : mg "dict" = none
  all : mg "all" = none
  ve : mg "ValueError" = none
  KEYS : ∃ t, mg "KEYS" = some (.int 1000 t)
  WORTHS : ∃ t, mg "WORTHS" = some (.int 1000 t)
  MOST_ROWS : ∃ t, mg "MOST_ROWS" = some (.int 100 t)
  MOST_CHANGES : ∃ t, mg "MOST_CHANGES" = some (.int 6 t)
/-! ### the mathematics -/
def isNum : PyData → Bool
  | .int _ => true | _ => false
theorem isNum_eq (d : PyData) : isNum d = (isInt d && !isBool d) := by cases d <;> rfl
def isKey : PyData → Bool
  | .int i => decide (0 ≤ i) && decide (i < 1000) | _ => false
def isRow : PyData → Bool
  | .tuple [k, w] => isKey k && isKey w | _ => false
def keyOf : PyData → Int
  | .tuple (.int k :: _) => k | _ => 0
def rising : Int → List PyData → Bool
  | _, [] => true
  | least, d :: r => isRow d && decide (least ≤ keyOf d) && rising (keyOf d + 1) r
def isTable : PyData → Bool
  | .tuple ds => decide (ds.length ≤ 100) && rising 0 ds | _ => false
section
open Evl
variable {P : Program} {w : World} {K : PySem.W.Frag} {mg : Str → Option Value} {base : Heap}
theorem ok_num {f : Addr} {fd : FuncData} {k : Nat} (F : Fun K "is_number" "is_number" sNum f fd) (N : Names mg) : FnOk P w K mg base CX0 (k + 1) f fd ["thing"] (spTold K isNum) := by
  refine F.ok scNum (fun vs H Q E h => ?_) (fun cdv A outer s H vs Q E hr h => ?_)
  · obtain ⟨v, d, rfl, _⟩ := h
    rfl
  · obtain ⟨v, d, rfl, hd, q⟩ := h
    refine ⟨_, pss_one (ps_ret (pe_and (pe_callB call_isi (by rfl) N.isinstance boot_isinstance (pa_cons (pv 0) (pa_cons (pe_bltn (v := .ty "int") (by rfl) N.int boot_int rfl) pa_nil)))
      (pe_one (pe_not (pe_callB call_isi (by rfl) N.isinstance boot_isinstance (pa_cons (pv 0) (pa_cons (pe_bltn (v := .ty "bool") (by rfl) N.bool boot_bool rfl) pa_nil))))))), ?_⟩
    rw [isNum_eq] at q
    exact s_ret (ev_andV (ev_int (ev_var rfl) hd) fun _ => ev_notV (ev_bool (ev_var rfl) hd)) q
theorem num_int {H : Hp} {v : V} {d : PyData} (h : Dp K H v d) (e : isNum d = true) : ∃ i, v = .int i ∧ d = .int i := by
  cases h with
  | int i => exact ⟨i, rfl, rfl⟩
  | _ => cases e
theorem key_eq (d : PyData) : (isNum d && isKey d) = isKey d := by cases d <;> rfl
theorem ok_key {f : Addr} {fd : FuncData} {k : Nat} (F : Fun K "is_key" "is_key" sKey f fd) (N : Names mg) (dN : Own P w K mg base "is_number" ["thing"] k (spTold K isNum)) : FnOk P w K mg base CX0 (k + 1) f fd ["thing"] (spTold K isKey) := by
  refine F.ok scKey (fun vs H Q E h => ?_) (fun cdv A outer s H vs Q E hr h => ?_)
  · obtain ⟨v, d, rfl, _⟩ := h
    rfl
  · obtain ⟨v, d, rfl, hd, q⟩ := h
    obtain ⟨tk, hK⟩ := N.KEYS
    refine ⟨_, pss_one (ps_ret (pe_and (pe_own dN hr (Nat.le_refl _) (by rfl) (pa_cons (pv 0) pa_nil)) (pe_one (pe_chain op_le op_lt pe_int (pv 0) (pe_glob (v := .int 1000) (by rfl) hK ⟨_, rfl⟩))))), ?_⟩
    refine s_ret (ev_is (ev_andV (b := isKey d) (ev_told (ev_var rfl) hd) fun e => ?_) (congrArg V.bl (key_eq d))) q
    obtain ⟨i, rfl, rfl⟩ := num_int hd e
    exact ev_chain (p := fun i j => decide (i ≤ j)) (p' := fun i j => decide (i < j)) ev_c (ev_var rfl) ev_c
theorem ok_worth {f : Addr} {fd : FuncData} {k : Nat} (F : Fun K "is_worth" "is_worth" sWorth f fd) (N : Names mg) (dN : Own P w K mg base "is_number" ["thing"] k (spTold K isNum)) : FnOk P w K mg base CX0 (k + 1) f fd ["thing"] (spTold K isKey) := by
  refine F.ok scWorth (fun vs H Q E h => ?_) (fun cdv A outer s H vs Q E hr h => ?_)
  · obtain ⟨v, d, rfl, _⟩ := h
    rfl
  · obtain ⟨v, d, rfl, hd, q⟩ := h
    obtain ⟨tk, hK⟩ := N.WORTHS
    refine ⟨_, pss_one (ps_ret (pe_and (pe_own dN hr (Nat.le_refl _) (by rfl) (pa_cons (pv 0) pa_nil)) (pe_one (pe_chain op_le op_lt pe_int (pv 0) (pe_glob (v := .int 1000) (by rfl) hK ⟨_, rfl⟩))))), ?_⟩
    refine s_ret (ev_is (ev_andV (b := isKey d) (ev_told (ev_var rfl) hd) fun e => ?_) (congrArg V.bl (key_eq d))) q
    obtain ⟨i, rfl, rfl⟩ := num_int hd e
    exact ev_chain (p := fun i j => decide (i ≤ j)) (p' := fun i j => decide (i < j)) ev_c (ev_var rfl) ev_c
theorem tup_dp {H : Hp} {v : V} {d : PyData} (h : Dp K H v d) (e : isTup d = true) : ∃ a xs ds, v = .ref a ∧ d = .tuple ds ∧ SqT K H a xs ∧ DpAll K H xs ds := by
  cases h with
  | tup h r => exact ⟨_, _, _, rfl, rfl, h, r⟩
  | _ => cases e
def rowB : PyData → Bool
  | .tuple ds => decide ((ds.length : Int) = 2) && (isKey (ds.getD 0 .none) && isKey (ds.getD 1 .none)) | _ => false
theorem row_eq (d : PyData) : (isTup d && rowB d) = isRow d := by
  cases d with
  | tuple ds =>
    match ds with
    | [] => rfl
    | [_] => rfl
    | [x, y] => rfl
    | x :: y :: z :: r =>
      show (decide ((((r.length + 1 + 1 + 1 : Nat)) : Int) = 2) && (isKey x && isKey y)) = false
      rw [decide_eq_false (by omega)]
      rfl
  | _ => rfl
theorem ok_row {f : Addr} {fd : FuncData} {k : Nat} (F : Fun K "is_row" "is_row" sRow f fd) (N : Names mg) (dK : Own P w K mg base "is_key" ["thing"] k (spTold K isKey)) (dW : Own P w K mg base "is_worth" ["thing"] k (spTold K isKey)) :
    FnOk P w K mg base CX0 (k + 1) f fd ["thing"] (spTold K isRow) := by
  refine F.ok scRow (fun vs H Q E h => ?_) (fun cdv A outer s H vs Q E hr h => ?_)
  · obtain ⟨v, d, rfl, _⟩ := h
    rfl
  · obtain ⟨v, d, rfl, hd, q⟩ := h
    refine ⟨_, pss_one (ps_ret (pe_and (pe_callB call_isi (by rfl) N.isinstance boot_isinstance (pa_cons (pv 0) (pa_cons (pe_bltn (v := .ty "tuple") (by rfl) N.tuple boot_tuple rfl) pa_nil)))
      (pe_and (pe_cmpR op_eq (pe_callB call_len_seq (by rfl) N.len PySem.boot_len (pa_cons (pv 0) pa_nil)) pe_int (nomark _))
      (pe_and (pe_own dK hr (Nat.le_refl _) (by rfl) (pa_cons (pe_ix ix_tup (pv 0) pe_int (fun _ _ => rfl)) pa_nil))
      (pe_one (pe_own dW hr (Nat.le_refl _) (by rfl) (pa_cons (pe_ix ix_tup (pv 0) pe_int (fun _ _ => rfl)) pa_nil))))))), ?_⟩
    refine s_ret (ev_is (ev_andV (b := rowB d) (ev_tuple (ev_var rfl) hd) fun e => ?_) (congrArg V.bl (row_eq d))) q
    obtain ⟨a, xs, ds, rfl, rfl, hT, hA⟩ := tup_dp hd e
    have hl := dps_len hA
    refine ev_andV (ev_is (ev_op (ev_lenT (ev_var rfl) hT) ev_c (rv_eq rfl)) (congrArg V.bl ?_)) fun e2 => ?_
    · rw [hl]
      exact decide_eq_decide.mpr ⟨fun z => V.int.inj z, fun z => congrArg V.int z⟩
    · have e3 : ds.length = 2 := by
        have := of_decide_eq_true e2
        omega
      obtain ⟨d0, d1, rfl⟩ := two_of e3
      cases hA with
      | cons h0 r =>
        cases r with
        | cons h1 r2 =>
          cases r2
          exact ev_andV (a := isKey d0) (b := isKey d1) (ev_told (ev_ix0 (ev_var rfl) hT) h0) fun _ => ev_told (ev_ix1 (ev_var rfl) hT) h1
end
end K13
namespace K13
open PySem L2 PyProof.Rows Tc Evl
section
variable {P : Program} {w : World} {K : PySem.W.Frag} {mg : Str → Option Value} {base : Heap}
theorem key_int {H : Hp} {v : V} {d : PyData} (h : Dp K H v d) (e : isKey d = true) : ∃ i, v = .int i ∧ d = .int i ∧ 0 ≤ i ∧ i < 1000 := by
  cases h with
  | int i =>
    have p : (decide (0 ≤ i) && decide (i < 1000)) = true := e
    rw [Bool.and_eq_true, decide_eq_true_eq, decide_eq_true_eq] at p
    exact ⟨i, rfl, rfl, p.1, p.2⟩
  | _ => cases e
theorem row_two {ds : List PyData} (e : isRow (.tuple ds) = true) : ∃ d0 d1, ds = [d0, d1] ∧ isKey d0 = true ∧ isKey d1 = true := by
  match ds, e with
  | [d0, d1], e =>
    have e' : (isKey d0 && isKey d1) = true := e
    rw [Bool.and_eq_true] at e'
    exact ⟨d0, d1, rfl, e'.1, e'.2⟩
theorem row_dp {H : Hp} {v : V} {d : PyData} (h : Dp K H v d) (e : isRow d = true) : ∃ (a : Addr) (k z : Int), v = .ref a ∧ d = .tuple [.int k, .int z] ∧ SqT K H a [.int k, .int z] ∧ 0 ≤ k ∧ k < 1000 ∧ 0 ≤ z ∧ z < 1000 := by
  cases h with
  | @tup a xs ds h r =>
    obtain ⟨d0, d1, rfl, k0, k1⟩ := row_two e
    cases r with
    | cons h0 r =>
      cases r with
      | cons h1 r2 =>
        cases r2
        obtain ⟨k, rfl, rfl, p1, p2⟩ := key_int h0 k0
        obtain ⟨z, rfl, rfl, p3, p4⟩ := key_int h1 k1
        exact ⟨a, k, z, rfl, rfl, h, p1, p2, p3, p4⟩
  | _ => cases e
theorem rising_cons (l : Int) (ds : List PyData) (i : Nat) (d : PyData) (h : ds[i]? = some d) : rising l (ds.drop i) = (isRow d && decide (l ≤ keyOf d) && rising (keyOf d + 1) (ds.drop (i + 1))) := by
  have hi := (List.getElem?_eq_some_iff.mp h)
  obtain ⟨h1, h2⟩ := hi
  rw [List.drop_eq_getElem_cons h1, h2]
  rfl
/-- rows from a least key on, less than last -/
def risB (last : Int) : Int → List PyData → Bool
  | _, [] => true
  | least, d :: r => isRow d && (decide (least ≤ keyOf d) && decide (keyOf d < last)) && risB last (keyOf d + 1) r
theorem risB_cons (last l : Int) (ds : List PyData) (i : Nat) (d : PyData) (h : ds[i]? = some d) : risB last l (ds.drop i) = (isRow d && (decide (l ≤ keyOf d) && decide (keyOf d < last)) && risB last (keyOf d + 1) (ds.drop (i + 1))) := by
  obtain ⟨h1, h2⟩ := List.getElem?_eq_some_iff.mp h
  rw [List.drop_eq_getElem_cons h1, h2]
  rfl
theorem row_key {d : PyData} (h : isRow d = true) : keyOf d < 1000 := by
  unfold isRow at h
  split at h
  · rename_i k w
    rw [Bool.and_eq_true] at h
    cases k with
    | int i =>
      have h1 := h.1
      unfold isKey at h1
      rw [Bool.and_eq_true] at h1
      exact of_decide_eq_true h1.2
    | _ => cases h.1
  · cases h
theorem risB_all : ∀ (ds : List PyData) (l : Int), risB 1000 l ds = rising l ds
  | [], _ => rfl
  | d :: ds, l => by
    show (isRow d && (decide (l ≤ keyOf d) && decide (keyOf d < 1000)) && risB 1000 (keyOf d + 1) ds) = (isRow d && decide (l ≤ keyOf d) && rising (keyOf d + 1) ds)
    rw [risB_all ds]
    cases hr : isRow d with
    | false => rfl
    | true => rw [decide_eq_true (row_key hr), Bool.and_true]
def rowsB (a b : Int) : PyData → Bool
  | .tuple ds => risB b a ds
  | _ => false
theorem table_rows (d : PyData) : isTable d = (rowsB 0 1000 d && (match d with | .tuple ds => decide (ds.length ≤ 100) | _ => false)) := by
  cases d with
  | tuple ds =>
    show (decide (ds.length ≤ 100) && rising 0 ds) = (risB 1000 0 ds && decide (ds.length ≤ 100))
    rw [risB_all, Bool.and_comm]
  | _ => rfl
def spRowsT (K : PySem.W.Frag) : Sp := fun vs H Q _ => ∃ (v : V) (d : PyData) (a b : Int), vs = [v, .int a, .int b] ∧ Dp K H v d ∧ ∀ H', Ex H H' → Q (.bl (rowsB a b d)) H'
theorem ok_rows {f : Addr} {fd : FuncData} {k : Nat} (F : Fun K "is_rows" "is_rows" sRows f fd) (N : Names mg) (dR : Own P w K mg base "is_row" ["thing"] k (spTold K isRow)) :
    FnOk P w K mg base CX0 (k + 1) f fd ["thing", "first", "last"] (spRowsT K) := by
  refine F.ok scRows (fun vs H Q E h => ?_) (fun cdv A outer s H vs Q E hr h => ?_)
  · obtain ⟨v, d, a, b, rfl, _⟩ := h
    rfl
  · obtain ⟨v, d, lo, hi, rfl, hd, q⟩ := h
    refine ⟨_, pss_cons (ps_if (pt_not (pt_val (pe_callB call_isi (by rfl) N.isinstance boot_isinstance (pa_cons (pv 0) (pa_cons (pe_bltn (v := .ty "tuple") (by rfl) N.tuple boot_tuple rfl) pa_nil))))) (pss_one (ps_ret pe_bl)) pss_nil)
      (pss_cons (ps_set (i := 3) scRows.nd rfl (.inl rfl) (pv 1))
      (pss_cons (ps_for PassesOwn.never rfl (pi_tup (pv 0)) (pg_name (i := 4) scRows.nd rfl (.inl rfl))
        (pss_cons (ps_if (PW.pt (pw_or (pt_not (pt_val (pe_own dR hr (Nat.le_refl _) (by rfl) (pa_cons (pv 4) pa_nil))))
            (pw_or1 (pt_not (pt_chain op_le op_lt (pv 3) (pe_ix ix_tup (pv 4) pe_int (fun _ _ => rfl)) (pv 2)))))) (pss_one (ps_ret pe_bl)) pss_nil)
          (pss_one (ps_set (i := 3) scRows.nd rfl (.inl rfl) (pe_op op_add (pe_ix ix_tup (pv 4) pe_int (fun _ _ => rfl)) pe_int)))))
      (pss_one (ps_ret pe_bl)))), ?_⟩
    cases hT : isTup d with
    | false =>
      have e0 : rowsB lo hi d = false := by
        cases d <;> first | rfl | cases hT
      rw [e0] at q
      exact s_seq (s_if (b := true) (et_is (et_not (et_B (ev_tuple (ev_var rfl) hd))) (by rw [hT]; rfl)) (fun _ H1 x1 => s_ret ev_c fun H2 x2 => q H2 (x1.trans x2)) fun e => by cases e)
    | true =>
      obtain ⟨a, xs, ds, rfl, rfl, hS, hA⟩ := tup_dp hd hT
      have hl := dps_len hA
      have q' : ∀ H', Ex H H' → Q (.bl (risB hi lo ds)) H' := q
      refine s_seq (s_if (b := false) (et_is (et_not (et_B (ev_tuple (ev_var rfl) hd))) (by rw [hT]; rfl)) (fun e => by cases e) fun _ H1 x1 => s_next ?_)
      refine s_seq (s_asg (ev_var rfl) fun H2 x2 => s_seq ?_)
      refine s_forT (K := K) (a := a) (xs := xs) (ev_var rfl) (ex_t (x1.trans x2) hS) (fun i σ' H' => ∃ l y, σ' = [some (.ref a), some (.int lo), some (.int hi), some (.int l), y] ∧ Ex H H' ∧ risB hi lo ds = risB hi l (ds.drop i)) (fun H3 x3 => ⟨lo, none, rfl, (x1.trans x2).trans x3, rfl⟩) (fun i σ' H' _ p => ?_) (fun i x σ' H' hx p => ?_) (fun σ' H' p => ?_)
      · obtain ⟨_, _, _, xx, _⟩ := p
        exact ex_t xx hS
      · obtain ⟨l, y, rfl, xx, er⟩ := p
        obtain ⟨dx, hdx, hD⟩ := dps_at hA hx
        have hD' := dp_same xx _ _ hD
        rw [risB_cons hi l ds i dx hdx] at er
        show tSeq _ _ _ [some (V.ref a), some (V.int lo), some (V.int hi), some (V.int l), some x] H'
        cases hR : isRow dx with
        | false =>
          rw [hR] at er
          refine s_if (et_or (et_not (et_B (ev_told (ev_var rfl) hD'))) (b := false) fun e => ?_) (fun _ H1 x1 => s_ret ev_c fun H2 x2 => ?_) (fun e => ?_)
          · rw [hR] at e
            cases e
          · rw [er] at q'
            exact q' H2 ((xx.trans x1).trans x2)
          · rw [hR] at e
            cases e
        | true =>
          obtain ⟨b, kk, z, rfl, rfl, hb, _⟩ := row_dp hD' hR
          rw [hR] at er
          have er2 : risB hi lo ds = ((decide (l ≤ kk) && decide (kk < hi)) && risB hi (kk + 1) (ds.drop (i + 1))) := er
          refine s_if (et_or (et_not (et_B (ev_told (ev_var rfl) hD'))) fun e => et_not (et_test (ev_chain (p := fun i j => decide (i ≤ j)) (p' := fun i j => decide (i < j)) (ev_var rfl) (ev_ix0 (ev_var rfl) hb) (ev_var rfl)))) (fun e H1 x1 => s_ret ev_c fun H2 x2 => ?_) (fun e H1 x1 => ?_)
          · rw [hR] at e
            have e1 : (!(decide (l ≤ kk) && decide (kk < hi))) = true := e
            have e3 : (decide (l ≤ kk) && decide (kk < hi)) = false := by
              cases hz : (decide (l ≤ kk) && decide (kk < hi)) with
              | false => rfl
              | true =>
                rw [hz] at e1
                cases e1
            rw [er2, e3] at q'
            exact q' H2 ((xx.trans x1).trans x2)
          · rw [hR] at e
            have e1 : (!(decide (l ≤ kk) && decide (kk < hi))) = false := e
            have e3 : (decide (l ≤ kk) && decide (kk < hi)) = true := by
              cases hz : (decide (l ≤ kk) && decide (kk < hi)) with
              | true => rfl
              | false =>
                rw [hz] at e1
                cases e1
            rw [e3] at er2
            refine s_next (s_asg (ev_op (ev_ix0 (ev_var rfl) (ex_t x1 hb)) ev_c rv_I0) fun H2 x2 => ?_)
            exact ⟨kk + 1, _, rfl, (xx.trans x1).trans x2, er2⟩
      · obtain ⟨l, y, rfl, xx, er⟩ := p
        rw [hl, List.drop_length] at er
        have er3 : risB hi lo ds = true := er
        rw [er3] at q'
        dsimp only
        exact s_ret ev_c fun H2 x2 => q' H2 (xx.trans x2)
theorem ev_rowsT {σ : L2.St} {H : Hp} {ta tb tc : TE} {v : V} {d : PyData} {a b : Int} {E : XK} (ha : Ev ta σ H v) (h : Dp K H v d) (hb : Ev tb σ H (.int a)) (hc : Ev tc σ H (.int b)) : Ev (tCall (spRowsT K) [] E (tCons ta (tCons tb (tCons tc tNil)))) σ H (.bl (rowsB a b d)) :=
  ev_call (ea_cons ha (ea_cons hb (ea_cons hc ea_nil))) fun H1 e Q q E => ⟨v, d, a, b, rfl, dp_same e _ _ h, fun H' e' => q H' e'⟩
theorem ok_table {f : Addr} {fd : FuncData} {k : Nat} (F : Fun K "is_table" "is_table" sTable f fd) (N : Names mg) (dR : Own P w K mg base "is_rows" ["thing", "first", "last"] k (spRowsT K)) :
    FnOk P w K mg base CX0 (k + 1) f fd ["thing"] (spTold K isTable) := by
  refine F.ok scTable (fun vs H Q E h => ?_) (fun cdv A outer s H vs Q E hr h => ?_)
  · obtain ⟨v, d, rfl, _⟩ := h
    rfl
  · obtain ⟨v, d, rfl, hd, q⟩ := h
    obtain ⟨tk, hK⟩ := N.KEYS
    obtain ⟨tm, hM⟩ := N.MOST_ROWS
    refine ⟨_, pss_one (ps_ret (pe_and (pe_own dR hr (Nat.le_refl _) (by rfl) (pa_cons (pv 0) (pa_cons pe_int (pa_cons (pe_glob (v := .int 1000) (by rfl) hK ⟨_, rfl⟩) pa_nil))))
      (pe_one (pe_cmpR op_le (pe_callB call_len_seq (by rfl) N.len PySem.boot_len (pa_cons (pv 0) pa_nil)) (pe_glob (v := .int 100) (by rfl) hM ⟨_, rfl⟩) (nomark _))))), ?_⟩
    rw [table_rows] at q
    refine s_ret (ev_andV (ev_rowsT (ev_var rfl) hd ev_c ev_c) fun e => ?_) q
    cases d with
    | tuple ds =>
      obtain ⟨a, xs, ds', e1, e2, hS, hA⟩ := tup_dp hd rfl
      cases e1
      cases e2
      exact ev_is (ev_op (ev_lenT (ev_var rfl) hS) ev_c rv_I0) (by
        rw [dps_len hA]
        show V.bl (decide ((ds.length : Int) ≤ 100)) = V.bl (decide (ds.length ≤ 100))
        congr 1
        exact decide_eq_decide.mpr (by omega))
    | _ => cases e
end
end K13
namespace K13
open PySem L2 PyProof.Rows Tc Evl
abbrev sBag : Stmt := topS 52
abbrev sTake : Stmt := topS 53
theorem scBag : FnScope ["script", "k", "cell"] ["script", "k"] (defScope sBag) := ⟨rfl, rfl, rfl, by decide +kernel, rfl, by decide +kernel, by decide +kernel⟩
theorem scTake : FnScope ["bag", "man1", "found"] ["bag", "man1"] (defScope sTake) := ⟨rfl, rfl, rfl, by decide +kernel, rfl, by decide +kernel, by decide +kernel⟩
section
variable {P : Program} {w : World} {K : PySem.W.Frag} {mg : Str → Option Value} {base : Heap}
theorem ok_take {f : Addr} {fd : FuncData} {k : Nat} (F : Fun K "_law_take" "_law_take" sTake f fd) : FnOk P w K mg base CX0 (k + 1) f fd ["bag", "man1"] spTake := by
  refine F.ok scTake (fun vs H Q E h => ?_) (fun cdv A outer s H vs Q E hr h => ?_)
  · obtain ⟨b, m, rfl, _⟩ := h
    rfl
  · obtain ⟨b, m, rfl, ⟨x, y, hb, hx, hy, hz⟩, hm, hm2, q⟩ := h
    refine ⟨_, pss_cons (ps_if (pt_cmpR op_gt (pe_ix ix_list (pv 0) pe_int (fun _ _ => rfl)) pe_int (nomark _))
        (pss_cons (ps_set (i := 2) scTake.nd rfl (.inl rfl) (pe_op op_mod (pe_ix ix_list (pv 0) pe_int (fun _ _ => rfl)) (pv 1)))
        (pss_cons (ps_asg (pe_op op_fdiv (pe_ix ix_list (pv 0) pe_int (fun _ _ => rfl)) (pv 1)) (pg_sub (pv 0) pe_int set_list))
        (pss_one (ps_ret (pv 2))))) pss_nil)
      (pss_cons (ps_asg (pe_op op_mod (pe_op op_mul (pe_ix ix_list (pv 0) pe_int (fun _ _ => rfl)) pe_int) pe_int) (pg_sub (pv 0) pe_int set_list))
      (pss_one (ps_ret (pe_op op_mod (pe_op op_fdiv (pe_op op_mod (pe_op op_mul (pe_ix ix_list (pv 0) pe_int (fun _ _ => rfl)) (pe_ix ix_list (pv 0) pe_int (fun _ _ => rfl))) pe_int) pe_int) (pv 1))))), ?_⟩
    have hS : SqL K H b [.int x, .int y] := sq_of hb
    refine s_if (et_test (ev_op (ev_l0 (ev_var rfl) hS) ev_c rv_I0)) (fun e H1 x1 => ?_) (fun e H1 x1 => ?_)
    · refine s_seq (s_asg (ev_op (ev_l0 (ev_var rfl) (ex_l x1 hS)) (ev_var rfl) (rv_mod hm)) fun H2 x2 => s_seq ?_)
      refine s_setL (l := b) (j := 0) (x2 b _ (x1 b _ hb)) (ev_op (ev_l0 (ev_var rfl) (ex_l (x1.trans x2) hS)) (ev_var rfl) (rv_fdiv hm hm2)) (ev_var rfl) ev_c (by simp) fun H3 x3 => ?_
      refine s_ret (ev_var rfl) fun H4 x4 => q _ _ ((Fr.put ((x1.trans x2).trans x3) (Int.ediv_nonneg hx (by omega)) hy hz).trans (Fr.ex ?_ x4)) (Int.emod_nonneg _ (by omega)) (Int.emod_lt_of_pos _ hm)
      exact ⟨x / m, y, upd_same, Int.ediv_nonneg hx (by omega), hy, hz⟩
    · have hS1 := ex_l x1 hS
      refine s_next (s_seq (s_setL (l := b) (j := 1) (x1 b _ hb) (ev_op (ev_op (ev_l1 (ev_var rfl) hS1) ev_c (rv_mul (.inl ⟨by omega, by omega⟩))) ev_c (rv_mod (by decide))) (ev_var rfl) ev_c (by simp) fun H2 x2 => ?_))
      have y1 := Int.emod_nonneg (y * 48271) (b := 2147483647) (by decide)
      have y2 := Int.emod_lt_of_pos (y * 48271) (b := 2147483647) (by decide)
      generalize hyy : y * 48271 % 2147483647 = yy at y1 y2
      have hb2 : (upd H2 b (.lst [.int x, .int yy])) b = some (.lst [.int x, .int yy]) := upd_same
      have hB : Bag (upd H2 b (.lst [.int x, .int yy])) b := ⟨x, yy, upd_same, hx, y1, by omega⟩
      have hS2 : SqL K (upd H2 b (.lst [.int x, .int yy])) b [.int x, .int yy] := sq_of upd_same
      refine s_ret (ev_op (ev_op (ev_op (ev_op (ev_l1 (ev_var rfl) hS2) (ev_l1 (ev_var rfl) hS2) (rv_mul (.inl ⟨by omega, by omega⟩))) ev_c (rv_mod (by decide))) ev_c (rv_fdiv (by decide) (by decide))) (ev_var rfl) (rv_mod hm)) fun H4 x4 => ?_
      exact q _ _ ((Fr.put (x1.trans x2) hx y1 (by omega)).trans (Fr.ex hB x4)) (Int.emod_nonneg _ (by omega)) (Int.emod_lt_of_pos _ hm)
theorem ok_bag {f : Addr} {fd : FuncData} {k : Nat} (F : Fun K "_law_bag" "_law_bag" sBag f fd) (N : Names mg) : FnOk P w K mg base CX0 (k + 1) f fd ["script", "k"] (spBag K) := by
  refine F.ok scBag (fun vs H Q E h => ?_) (fun cdv A outer s H vs Q E hr h => ?_)
  · obtain ⟨a, ns, k, rfl, _⟩ := h
    rfl
  · obtain ⟨a, ns, n, rfl, hS, hn, q⟩ := h
    refine ⟨_, pss_cons (ps_set (i := 2) scBag.nd rfl (.inl rfl) pe_int)
      (Evl.pss_cut (ps_if (pt_cmpR op_lt (pv 1) (pe_callB call_len_seq (by rfl) N.len PySem.boot_len (pa_cons (pv 0) pa_nil)) (nomark _)) (pss_one (ps_set (i := 2) scBag.nd rfl (.inl rfl) (pe_callB call_abs (by rfl) N.abs boot_abs (pa_cons (pe_ix ix_list (pv 0) (pv 1) (fun _ _ => rfl)) pa_nil)))) pss_nil)
      (pss_cons (ps_if (pt_cmpR op_lt (pv 2) (pe_op op_pow pe_int pe_int) (nomark _)) (pss_one (ps_ret (pe_lst (pa_cons pe_int (pa_cons (pe_op op_add pe_int (pe_op op_mod (pe_op op_add (pe_op op_mul (pv 2) pe_int) (pe_op op_mul pe_int (pv 1))) pe_int)) pa_nil))))) pss_nil)
      (pss_one (ps_ret (pe_lst (pa_cons (pv 2) (pa_cons (pe_op op_add pe_int (pe_op op_mod (pe_op op_add (pv 2) (pv 1)) pe_int)) pa_nil))))))), ?_⟩
    refine s_seq (s_asg ev_c fun H1 x1 => ⟨fun σ' H' => ∃ c : Int, σ' = [some (.ref a), some (.int (n : Int)), some (.int c)] ∧ Ex H H' ∧ 0 ≤ c, ?_, fun σ' H' m => ?_⟩)
    · refine s_if (et_test (ev_op (ev_var rfl) (ev_len (ev_var rfl) (ex_l x1 hS)) rv_I0)) (fun e H2 x2 => ?_) (fun e H2 x2 => ⟨0, rfl, x1.trans x2, by decide⟩)
      have e1 := of_decide_eq_true e
      rw [List.length_map] at e1
      have hlt : n < ns.length := by omega
      have hx : (ns.map V.int)[n]? = some (.int ns[n]) := by
        rw [List.getElem?_map, List.getElem?_eq_getElem hlt]
        rfl
      refine s_asg (ev_abs (ev_lx (ev_var rfl) (ev_var rfl) (ex_l (x1.trans x2) hS) hx)) fun H3 x3 => ⟨_, rfl, (x1.trans x2).trans x3, ?_⟩
      split <;> omega
    · obtain ⟨c, rfl, xx, hc⟩ := m
      refine s_seq (s_if (et_test (ev_op (ev_var rfl) (ev_op ev_c ev_c (rv_pow ⟨by decide, by decide, by decide⟩)) rv_I0)) (fun e H2 x2 => ?_) (fun e H2 x2 => s_next ?_))
      · refine s_retL (el_lst (ea_cons ev_c (ea_cons (ev_op ev_c (ev_op (ev_op (ev_op (ev_var rfl) ev_c (rv_mul (.inr ⟨by decide, by decide⟩))) (ev_op ev_c (ev_var rfl) (rv_mul (.inl ⟨by decide, by decide⟩))) rv_add) ev_c (rv_mod (by decide))) rv_add) ea_nil)) (by simp)) fun p H3 hp x3 hb => ?_
        have y1 := Int.emod_nonneg (c * 7919 + 104729 * (n : Int)) (b := 2147483646) (by decide)
        have y2 := Int.emod_lt_of_pos (c * 7919 + 104729 * (n : Int)) (b := 2147483646) (by decide)
        exact q p H3 (fresh_back (xx.trans x2) hp) ((xx.trans x2).trans x3) ⟨_, _, hb, by decide, by omega, by omega⟩
      · refine s_retL (el_lst (ea_cons (ev_var rfl) (ea_cons (ev_op ev_c (ev_op (ev_op (ev_var rfl) (ev_var rfl) rv_add) ev_c (rv_mod (by decide))) rv_add) ea_nil)) (by simp)) fun p H3 hp x3 hb => ?_
        have y1 := Int.emod_nonneg (c + (n : Int)) (b := 2147483646) (by decide)
        have y2 := Int.emod_lt_of_pos (c + (n : Int)) (b := 2147483646) (by decide)
        exact q p H3 (fresh_back (xx.trans x2) hp) ((xx.trans x2).trans x3) ⟨_, _, hb, hc, by omega, by omega⟩
end
end K13
namespace K13
open PySem L2 PyProof.Rows Tc Evl
def within (lo hi : Int) : PyData → Bool
  | .int i => decide (lo ≤ i) && decide (i ≤ hi) | _ => false
theorem within_eq (lo hi : Int) (d : PyData) : (isInt d && (!isBool d && within lo hi d)) = within lo hi d := by
  cases d <;> first | rfl | (simp [isInt, isBool, within])
theorem within_key (d : PyData) : within 0 999 d = isKey d := by
  cases d with
  | int i =>
    show (decide (0 ≤ i) && decide (i ≤ 999)) = (decide (0 ≤ i) && decide (i < 1000))
    rw [show decide (i ≤ 999) = decide (i < 1000) from decide_eq_decide.mpr (by omega)]
  | _ => rfl
def spWithin (K : PySem.W.Frag) : Sp := fun vs H Q _ => ∃ (v : V) (d : PyData) (lo hi : Int), vs = [v, .int lo, .int hi] ∧ Dp K H v d ∧ ∀ H', Ex H H' → Q (.bl (within lo hi d)) H'
section
variable {P : Program} {w : World} {K : PySem.W.Frag} {mg : Str → Option Value} {base : Heap}
abbrev sWithin : Stmt := topS 55
theorem scWithin : FnScope ["thing", "least", "most"] ["thing", "least", "most"] (defScope sWithin) := ⟨rfl, rfl, rfl, by decide +kernel, rfl, by decide +kernel, by decide +kernel⟩
theorem ok_within {f : Addr} {fd : FuncData} {k : Nat} (F : Fun K "_law_within" "_law_within" sWithin f fd) (N : Names mg) : FnOk P w K mg base CX0 (k + 1) f fd ["thing", "least", "most"] (spWithin K) := by
  refine F.ok scWithin (fun vs H Q E h => ?_) (fun cdv A outer s H vs Q E hr h => ?_)
  · obtain ⟨v, d, lo, hi, rfl, _⟩ := h
    rfl
  · obtain ⟨v, d, lo, hi, rfl, hd, q⟩ := h
    refine ⟨_, pss_one (ps_ret (pe_and (pe_callB call_isi (by rfl) N.isinstance boot_isinstance (pa_cons (pv 0) (pa_cons (pe_bltn (v := .ty "int") (by rfl) N.int boot_int rfl) pa_nil)))
      (pe_and (pe_not (pe_callB call_isi (by rfl) N.isinstance boot_isinstance (pa_cons (pv 0) (pa_cons (pe_bltn (v := .ty "bool") (by rfl) N.bool boot_bool rfl) pa_nil))))
      (pe_one (pe_chain op_le op_le (pv 1) (pv 0) (pv 2)))))), ?_⟩
    refine s_ret (ev_is (ev_andV (ev_int (ev_var rfl) hd) fun e => ev_andV (b := within lo hi d) (ev_notV (ev_bool (ev_var rfl) hd)) fun e2 => ?_) (congrArg V.bl (within_eq lo hi d))) q
    cases hd with
    | int i => exact ev_chain (p := fun i j => decide (i ≤ j)) (p' := fun i j => decide (i ≤ j)) (ev_var rfl) (ev_var rfl) (ev_var rfl)
    | bl b => cases e2
    | _ => cases e
theorem ev_within {σ : L2.St} {H : Hp} {ta tb tc : TE} {E : XK} {v : V} {d : PyData} {lo hi : Int} (ha : Ev ta σ H v) (hb : Ev tb σ H (.int lo)) (hc : Ev tc σ H (.int hi)) (h : Dp K H v d) : Ev (tCall (spWithin K) [] E (tCons ta (tCons tb (tCons tc tNil)))) σ H (.bl (within lo hi d)) :=
  ev_call (ea_cons ha (ea_cons hb (ea_cons hc ea_nil))) fun H1 e Q q E => ⟨v, d, lo, hi, rfl, dp_same e _ _ h, fun H' e' => q H' e'⟩
end
end K13
namespace K13
open PySem L2 PyProof.Rows Tc Evl
abbrev sOdd : Stmt := topS 57
theorem scOdd : FnScope ["bag", "some"] ["bag"] (defScope sOdd) := ⟨rfl, rfl, rfl, by decide +kernel, rfl, by decide +kernel, by decide +kernel⟩
/-- what the law's odd things are -/
def odd1 : List PyData := [.none, .bool true, .bool false, .int 0, .int 1, .int (-1), .int 5, .int 999, .int 1000, .int 1001, .int (10 ^ (30 : Int).toNat), .str "", .str "a", .str "put", .str "drop", .str "low", .str "high", .str "group"]
def odd2 : List PyData := [.tuple [], .list [], .tuple [.int 1, .int 2], .tuple [.tuple [.int 1, .int 2]], .tuple [.tuple [.int 2, .int 1], .tuple [.int 1, .int 2]], .list [.tuple [.int 1, .int 2]], .tuple [.str "put", .int 1, .int 2], .tuple [.str "drop", .int 1], .tuple [.none]]
def odd3 : List PyData := [.tuple [.str "low", .int 1, .int 0], .tuple [.str "group", .tuple [.tuple [.str "put", .int 1, .int 2]]], .tuple [.tuple [.str "put", .int 1, .int 2]], .tuple [.bool true, .int 2], .tuple [.int 1, .int (-1)]]
theorem odd_gd : ∀ d ∈ odd1 ++ odd2 ++ odd3, gd 0 3 d = true := by
  have h : (odd1 ++ odd2 ++ odd3).all (gd 0 3) = true := by decide +kernel
  exact fun d m => List.all_eq_true.mp h d m
section
variable {P : Program} {w : World} {K : PySem.W.Frag} {mg : Str → Option Value} {base : Heap}
theorem ok_odd {f : Addr} {fd : FuncData} {k : Nat} (F : Fun K "_law_odd" "_law_odd" sOdd f fd) (N : Names mg) (dT : Own P w K mg base "_law_take" ["bag", "man1"] k spTake) : FnOk P w K mg base CX0 (k + 1) f fd ["bag"] (spNew K (gd 0 3)) := by
  refine F.ok scOdd (fun vs H Q E h => ?_) (fun cdv A outer s H vs Q E hr h => ?_)
  · obtain ⟨b, S, rfl, _⟩ := h
    rfl
  · obtain ⟨b, S, rfl, hB, hS, q⟩ := h
    refine ⟨_, pss_cons (ps_set (i := 1) scOdd.nd rfl (.inl rfl) (pe_lst (pa_cons pe_non (pa_cons pe_bl (pa_cons pe_bl (pa_cons pe_int (pa_cons pe_int (pa_cons (pe_un un_neg pe_int) (pa_cons pe_int (pa_cons pe_int (pa_cons pe_int (pa_cons pe_int (pa_cons (pe_op op_pow pe_int pe_int)
        (pa_cons pe_str (pa_cons pe_str (pa_cons pe_str (pa_cons pe_str (pa_cons pe_str (pa_cons pe_str (pa_cons pe_str pa_nil))))))))))))))))))))
      (pss_cons (ps_set (i := 1) scOdd.nd rfl (.inl rfl) (pe_op op_cat (pv 1) (pe_lst (pa_cons (pe_tup pa_nil) (pa_cons (pe_lst pa_nil) (pa_cons (pe_tup (pa_cons pe_int (pa_cons pe_int pa_nil))) (pa_cons (pe_tup (pa_cons (pe_tup (pa_cons pe_int (pa_cons pe_int pa_nil))) pa_nil))
        (pa_cons (pe_tup (pa_cons (pe_tup (pa_cons pe_int (pa_cons pe_int pa_nil))) (pa_cons (pe_tup (pa_cons pe_int (pa_cons pe_int pa_nil))) pa_nil))) (pa_cons (pe_lst (pa_cons (pe_tup (pa_cons pe_int (pa_cons pe_int pa_nil))) pa_nil))
        (pa_cons (pe_tup (pa_cons pe_str (pa_cons pe_int (pa_cons pe_int pa_nil)))) (pa_cons (pe_tup (pa_cons pe_str (pa_cons pe_int pa_nil))) (pa_cons (pe_tup (pa_cons pe_non pa_nil)) pa_nil))))))))))))
      (pss_cons (ps_set (i := 1) scOdd.nd rfl (.inl rfl) (pe_op op_cat (pv 1) (pe_lst (pa_cons (pe_tup (pa_cons pe_str (pa_cons pe_int (pa_cons pe_int pa_nil)))) (pa_cons (pe_tup (pa_cons pe_str (pa_cons (pe_tup (pa_cons (pe_tup (pa_cons pe_str (pa_cons pe_int (pa_cons pe_int pa_nil)))) pa_nil)) pa_nil)))
        (pa_cons (pe_tup (pa_cons (pe_tup (pa_cons pe_str (pa_cons pe_int (pa_cons pe_int pa_nil)))) pa_nil)) (pa_cons (pe_tup (pa_cons pe_bl (pa_cons pe_int pa_nil))) (pa_cons (pe_tup (pa_cons pe_int (pa_cons (pe_un un_neg pe_int) pa_nil))) pa_nil))))))))
      (pss_one (ps_ret (pe_ix ix_list (pv 1) (pe_own dT hr (Nat.le_refl _) (by rfl) (pa_cons (pv 0) (pa_cons (pe_callB call_len_seq (by rfl) N.len PySem.boot_len (pa_cons (pv 1) pa_nil)) pa_nil))) (fun _ _ => rfl)))))), ?_⟩
    have cI : ∀ (i : Int) (H : Hp), Dp K H (.int i) (.int i) := fun i H => .int i
    have cS : ∀ (i : Str) (H : Hp), Dp K H (.str i) (.str i) := fun i H => .str i
    have cB : ∀ (i : Bool) (H : Hp), Dp K H (.bl i) (.bool i) := fun i H => .bl i
    have cN : ∀ (H : Hp), Dp K H .non .none := fun H => .non
    have t2 : ∀ (i j : Int) (σ : L2.St) (H : Hp), Sok S b H → CD S b K (tTup (tCons (tC (.int i)) (tCons (tC (.int j)) tNil))) σ H (.tuple [.int i, .int j]) := fun i j σ H hs => cd_tup hs (cda_cons hS.mem (cd_c (cI i)) (cda_cons hS.mem (cd_c (cI j)) cda_nil)) (by simp)
    have t3 : ∀ (z : Str) (i j : Int) (σ : L2.St) (H : Hp), Sok S b H → CD S b K (tTup (tCons (tC (.str z)) (tCons (tC (.int i)) (tCons (tC (.int j)) tNil)))) σ H (.tuple [.str z, .int i, .int j]) := fun z i j σ H hs => cd_tup hs (cda_cons hS.mem (cd_c (cS z)) (cda_cons hS.mem (cd_c (cI i)) (cda_cons hS.mem (cd_c (cI j)) cda_nil))) (by simp)
    have o1 : ∀ σ H, Sok S b H → CDL S b K (tLst _) σ H odd1 := fun σ H hs => cdl_lst hS.mem (ds := odd1) (cda_cons hS.mem (cd_c cN) (cda_cons hS.mem (cd_c (cB true)) (cda_cons hS.mem (cd_c (cB false)) (cda_cons hS.mem (cd_c (cI 0)) (cda_cons hS.mem (cd_c (cI 1)) (cda_cons hS.mem cd_neg (cda_cons hS.mem (cd_c (cI 5)) (cda_cons hS.mem (cd_c (cI 999)) (cda_cons hS.mem (cd_c (cI 1000)) (cda_cons hS.mem (cd_c (cI 1001))
      (cda_cons hS.mem (cd_pow ⟨by decide, by decide, by decide⟩) (cda_cons hS.mem (cd_c (cS "")) (cda_cons hS.mem (cd_c (cS "a")) (cda_cons hS.mem (cd_c (cS "put")) (cda_cons hS.mem (cd_c (cS "drop")) (cda_cons hS.mem (cd_c (cS "low")) (cda_cons hS.mem (cd_c (cS "high")) (cda_cons hS.mem (cd_c (cS "group")) cda_nil)))))))))))))))))) (by decide)
    have o2 : ∀ σ H, Sok S b H → CDL S b K (tLst _) σ H odd2 := fun σ H hs => cdl_lst hS.mem (ds := odd2) (cda_cons hS.mem (cd_tup hs cda_nil (by decide)) (cda_cons hS.mem (cd_lst hs cda_nil (by decide)) (cda_cons hS.mem (t2 1 2 σ H hs) (cda_cons hS.mem (cd_tup hs (cda_cons hS.mem (t2 1 2 σ H hs) cda_nil) (by decide)) (cda_cons hS.mem (cd_tup hs (cda_cons hS.mem (t2 2 1 σ H hs) (cda_cons hS.mem (t2 1 2 σ H hs) cda_nil)) (by decide))
      (cda_cons hS.mem (cd_lst hs (cda_cons hS.mem (t2 1 2 σ H hs) cda_nil) (by decide)) (cda_cons hS.mem (t3 "put" 1 2 σ H hs) (cda_cons hS.mem (cd_tup hs (cda_cons hS.mem (cd_c (cS "drop")) (cda_cons hS.mem (cd_c (cI 1)) cda_nil)) (by decide)) (cda_cons hS.mem (cd_tup hs (cda_cons hS.mem (cd_c cN) cda_nil) (by decide)) cda_nil))))))))) (by decide)
    have o3 : ∀ σ H, Sok S b H → CDL S b K (tLst _) σ H odd3 := fun σ H hs => cdl_lst hS.mem (ds := odd3) (cda_cons hS.mem (t3 "low" 1 0 σ H hs) (cda_cons hS.mem (cd_tup hs (cda_cons hS.mem (cd_c (cS "group")) (cda_cons hS.mem (cd_tup hs (cda_cons hS.mem (t3 "put" 1 2 σ H hs) cda_nil) (by decide)) cda_nil)) (by decide)) (cda_cons hS.mem (cd_tup hs (cda_cons hS.mem (t3 "put" 1 2 σ H hs) cda_nil) (by decide))
      (cda_cons hS.mem (cd_tup hs (cda_cons hS.mem (cd_c (cB true)) (cda_cons hS.mem (cd_c (cI 2)) cda_nil)) (by decide)) (cda_cons hS.mem (cd_tup hs (cda_cons hS.mem (cd_c (cI 1)) (cda_cons hS.mem cd_neg cda_nil)) (by decide)) cda_nil))))) (by decide)
    refine s_seq (o1 _ H hS H (Fr.refl hB) _ fun p1 v1 H1 f1 n1 b1 h1 d1 => s_seq ?_)
    refine cdl_cat hS.mem (i := 1) rfl h1 b1 d1 (o2 _ H1 (hS.fr f1)) (by decide) H1 (Fr.refl f1.bag) _ fun p2 v2 H2 f2 n2 b2 h2 d2 => s_seq ?_
    refine cdl_cat hS.mem (i := 1) rfl h2 b2 d2 (o3 _ H2 ((hS.fr f1).fr f2)) (by decide) H2 (Fr.refl f2.bag) _ fun p3 v3 H3 f3 n3 b3 h3 d3 => ?_
    exact cdraw_item hS.mem (i := 1) (j := 0) f3.bag rfl rfl h3 b3 d3 (by decide) (by decide) fun v d H' fr m hd => q v d H' (((f1.trans f2).trans f3).trans fr) hd (odd_gd d m)
end
end K13
namespace K13
open PySem L2 PyProof.Rows Tc Evl
abbrev sSp : Stmt := topS 58
theorem scSp : FnScope ["bag", "thing", "way", "rows", "at", "other"] ["bag", "thing"] (defScope sSp) := ⟨rfl, rfl, rfl, by decide +kernel, rfl, by decide +kernel, by decide +kernel⟩
section
variable {P : Program} {w : World} {K : PySem.W.Frag} {mg : Str → Option Value} {base : Heap}
theorem odd_of {H : Hp} {σ : L2.St} {b : Addr} {S : Addr → Prop} {n c : Nat} {Q : VK} {E : XK} (h0 : σ[0]? = some (some (.ref b))) (hB : Bag H b) (hS : Sok S b H) (q : ∀ v' d' H', Fr b H H' → Dp K (cut S H') v' d' → gd (c + 1) (n + 3) d' = true → Q v' H') : tCall (spNew K (gd 0 3)) [] E (tCons (tVar 0) tNil) σ H Q :=
  ⟨.ref b, h0, b, S, rfl, hB, hS, fun v d H' fr hd hg => q v d H' fr hd (gd_le (gd_lc hg (Nat.zero_le _)) (by omega))⟩
/-- a body of the spoiling def, its data of one kind -/
def Body (P : Program) (w : World) (K : PySem.W.Frag) (mg : Str → Option Value) (base : Heap) (k n : Nat) (d : PyData) : Prop := ∀ (f : Addr) (cdv : Value) (A : Around) (outer : List Env) (s : Shared) (H : Hp) (b : Addr) (v : V) (S : Addr → Prop) (c : Nat) (Q : VK) (E : XK),
  Room k (A.deeper (envOfC "_law_spoilt" (defScope sSp) s.heap.objs.size f cdv)) → Bag H b → Sok S b H → Dp K (cut S H) v d → gd c n d = true → c ≤ 8 → (∀ v' d' H', Fr b H H' → Dp K (cut S H') v' d' → gd (c + 1) (n + 3) d' = true → Q v' H') →
  ∃ t, PSs (cxOf CX0 P w K mg base ["bag", "thing", "way", "rows", "at", "other"] "_law_spoilt" (defScope sSp) f cdv A outer s H E).nox (defBody sSp) t ∧ t { nx := fun _ H' => Q .non H', rt := Q } (start ["bag", "thing", "way", "rows", "at", "other"] [.ref b, v]) H
theorem body_none {kT kO k n : Nat} (N : Names mg) (dT : Own P w K mg base "_law_take" ["bag", "man1"] kT spTake) (hT : kT ≤ k) (dO : Own P w K mg base "_law_odd" ["bag"] kO (spNew K (gd 0 3))) (hO : kO ≤ k) : Body P w K mg base k n .none := by
  intro f cdv A outer s H b v S c Q E hr hB hS hd hg hc q
  refine ⟨_, pss_cons (ps_set (i := 2) scSp.nd rfl (.inl rfl) (pe_own dT hr hT (by rfl) (pa_cons (pv 0) (pa_cons pe_int pa_nil))))
      (pss_cons (ps_if (PW.pt (pw_and (pt_val (pe_callB call_isiT (by rfl) N.isinstance boot_isinstance (pa_cons (pv 1) (pa_cons (pe_tup (pa_cons (pe_bltn (v := .ty "tuple") (by rfl) N.tuple boot_tuple rfl) (pa_cons (pe_bltn (v := .ty "list") (by rfl) N.list boot_list rfl) pa_nil))) pa_nil)))) (pw_and (pt_cmpR op_gt (pe_callB call_len_seq (by rfl) N.len PySem.boot_len (pa_cons (pv 1) pa_nil)) pe_int (nomark _)) (pw_and1 (pt_cmpR op_gt (pv 2) pe_int (nomark _)))))) pss_never pss_nil)
      (pss_cons (ps_if (PW.pt (pw_and (pt_val (pe_callB call_isi (by rfl) N.isinstance boot_isinstance (pa_cons (pv 1) (pa_cons (pe_bltn (v := .ty "str") (by rfl) N.str boot_str rfl) pa_nil)))) (pw_and1 (pt_cmpR op_gt (pv 2) pe_int (nomark _))))) pss_never pss_nil)
      (pss_cons (ps_if (PW.pt (pw_and (pt_val (pe_callB call_isi (by rfl) N.isinstance boot_isinstance (pa_cons (pv 1) (pa_cons (pe_bltn (v := .ty "int") (by rfl) N.int boot_int rfl) pa_nil)))) (pw_and1 (pt_cmpR op_gt (pv 2) pe_int (nomark _))))) pss_never pss_nil)
      (pss_one (ps_ret (pe_own dO hr hO (by rfl) (pa_cons (pv 0) pa_nil))))))), ?_⟩
  refine s_seq (take_of (b := b) (m := 9) hB (ea_cons (ev_var rfl) (ea_cons ev_c ea_nil)) (by decide) (by decide) fun r H1 f1 r0 r1 => ?_)
  have hd1 := dp_same (cut_sm hS.mem f1) _ _ hd
  have hd2 := dp_same (cut_same S H1) _ _ hd1
  refine s_seq (s_if (b := false) (et_and (a := false) (b := false) (et_B (ev_isiT (ev_var rfl) hd2)) fun e => by cases e) (fun e => by cases e) fun _ H2 x2 => s_next ?_)
  refine s_seq (s_if (b := false) (et_and (a := false) (b := false) (et_B (ev_str (ev_var rfl) (dp_same x2 _ _ hd2))) fun e => by cases e) (fun e => by cases e) fun _ H3 x3 => s_next ?_)
  refine s_seq (s_if (b := false) (et_and (a := false) (b := false) (et_B (ev_int (ev_var rfl) (dp_same (x2.trans x3) _ _ hd2))) fun e => by cases e) (fun e => by cases e) fun _ H4 x4 => s_next ?_)
  have f4 := f1.trans (Fr.ex f1.bag ((x2.trans x3).trans x4))
  exact odd_of rfl f4.bag (hS.fr f4) fun v' d' H' fr h1 h2 => q v' d' H' (f4.trans fr) h1 h2
theorem body_str {kT kO k n : Nat} (N : Names mg) (dT : Own P w K mg base "_law_take" ["bag", "man1"] kT spTake) (hT : kT ≤ k) (dO : Own P w K mg base "_law_odd" ["bag"] kO (spNew K (gd 0 3))) (hO : kO ≤ k) (z : Str) : Body P w K mg base k n (.str z) := by
  intro f cdv A outer s H b v S c Q E hr hB hS hd hg hc q
  refine ⟨_, pss_cons (ps_set (i := 2) scSp.nd rfl (.inl rfl) (pe_own dT hr hT (by rfl) (pa_cons (pv 0) (pa_cons pe_int pa_nil))))
      (pss_cons (ps_if (PW.pt (pw_and (pt_val (pe_callB call_isiT (by rfl) N.isinstance boot_isinstance (pa_cons (pv 1) (pa_cons (pe_tup (pa_cons (pe_bltn (v := .ty "tuple") (by rfl) N.tuple boot_tuple rfl) (pa_cons (pe_bltn (v := .ty "list") (by rfl) N.list boot_list rfl) pa_nil))) pa_nil)))) (pw_and (pt_cmpR op_gt (pe_callB call_len_seq (by rfl) N.len PySem.boot_len (pa_cons (pv 1) pa_nil)) pe_int (nomark _)) (pw_and1 (pt_cmpR op_gt (pv 2) pe_int (nomark _)))))) pss_never pss_nil)
      (pss_cons (ps_if (PW.pt (pw_and (pt_val (pe_callB call_isi (by rfl) N.isinstance boot_isinstance (pa_cons (pv 1) (pa_cons (pe_bltn (v := .ty "str") (by rfl) N.str boot_str rfl) pa_nil)))) (pw_and1 (pt_cmpR op_gt (pv 2) pe_int (nomark _))))) (pss_one (ps_ret (pe_ix ix_list (pe_lst (pa_cons (pe_op op_add_str (pv 1) pe_str) (pa_cons (pe_slice sl_str (pv 1) po_none (po_some (pe_un un_neg pe_int))) (pa_cons (pe_op op_add_str (pv 1) pe_str) (pa_cons (pe_upper (pv 1)) (pa_cons (pe_op op_add_str (pv 1) (pv 1)) (pa_cons (pe_op op_add_str pe_str (pv 1)) (pa_cons pe_str pa_nil)))))))) (pe_op op_sub (pv 2) pe_int) (fun _ _ => rfl)))) pss_nil)
      (pss_cons (ps_if (PW.pt (pw_and (pt_val (pe_callB call_isi (by rfl) N.isinstance boot_isinstance (pa_cons (pv 1) (pa_cons (pe_bltn (v := .ty "int") (by rfl) N.int boot_int rfl) pa_nil)))) (pw_and1 (pt_cmpR op_gt (pv 2) pe_int (nomark _))))) pss_never pss_nil)
      (pss_one (ps_ret (pe_own dO hr hO (by rfl) (pa_cons (pv 0) pa_nil))))))), ?_⟩
  refine s_seq (take_of (b := b) (m := 9) hB (ea_cons (ev_var rfl) (ea_cons ev_c ea_nil)) (by decide) (by decide) fun r H1 f1 r0 r1 => ?_)
  have hd1 := dp_same (cut_sm hS.mem f1) _ _ hd
  have hd2 := dp_same (cut_same S H1) _ _ hd1
  have hz := gd_str.mp hg
  have hp := pow_bd (c := c) (by omega)
  have hp1 := pow_bd (c := c + 1) (by omega)
  have hp2 : 100 * 3 ^ (c + 1) = 3 * (100 * 3 ^ c) := by rw [Nat.pow_succ]; omega
  cases hd with
  | str =>
  refine s_seq (s_if (b := false) (et_and (a := false) (b := false) (et_B (ev_isiT (ev_var rfl) hd2)) fun e => by cases e) (fun e => by cases e) fun _ H2 x2 => s_next ?_)
  have f2 := f1.trans (Fr.ex f1.bag x2)
  refine s_seq (s_if (et_and (a := true) (et_B (ev_str (ev_var rfl) (dp_same x2 _ _ hd2))) fun _ => et_test (ev_op (ev_var rfl) ev_c rv_I0)) (fun e H3 x3 => ?_) fun e H3 x3 => s_next ?_)
  · have e1 : (1 : Int) < r := of_decide_eq_true e
    obtain ⟨j, hj⟩ : ∃ j : Nat, r = (j : Int) + 2 := ⟨(r - 2).toNat, by omega⟩
    have hj7 : j < 7 := by omega
    have ka : (Str.ofString "a").length = 1 := by decide
    have kb : (Str.ofString " ").length = 1 := by decide
    have kz : (Str.ofString "z").length = 1 := by decide
    have f3 := f2.trans (Fr.ex f2.bag x3)
    have hl : ∀ d ∈ [PyData.str (z ++ "a"), .str (cutS z none (some (-1))), .str (z ++ " "), .str (Txt.upper z), .str (z ++ z), .str ("z" ++ z), .str ""], gd (c + 1) (n + 3) d = true := by
      have a1 : (Str.ofString "a").length = 1 := by decide
      have a2 : (Str.ofString " ").length = 1 := by decide
      have a3 : (Str.ofString "z").length = 1 := by decide
      have a4 : (Str.ofString "").length = 0 := by decide
      have u := len_upper z
      have s1 := cutS_length z none (some (-1))
      intro d m
      simp only [List.mem_cons, List.not_mem_nil, or_false] at m
      rcases m with rfl | rfl | rfl | rfl | rfl | rfl | rfl <;> refine gd_str.mpr ?_ <;> (try rw [strLen_append]) <;> omega
    obtain ⟨d', hd'⟩ : ∃ d', [PyData.str (z ++ "a"), .str (cutS z none (some (-1))), .str (z ++ " "), .str (Txt.upper z), .str (z ++ z), .str ("z" ++ z), .str ""][j]? = some d' := ⟨_, List.getElem?_eq_getElem (by simpa using hj7)⟩
    refine cd_item (S := S) (b := b) hS.mem (cdl_lst hS.mem (cda_cons hS.mem (cd_ev (fun H => ev_op (ev_var rfl) ev_c (rv_addS (by simp only [ka, kb, kz]; omega))) fun H => .str _) (cda_cons hS.mem (cd_ev (fun H => ev_slS (ev_var rfl) eo_none (eo_some (ev_un ev_c ru_neg)) (by omega)) fun H => .str _)
      (cda_cons hS.mem (cd_ev (fun H => ev_op (ev_var rfl) ev_c (rv_addS (by simp only [ka, kb, kz]; omega))) fun H => .str _) (cda_cons hS.mem (cd_ev (fun H => ev_upper (ev_var rfl) (by omega)) fun H => .str _) (cda_cons hS.mem (cd_ev (fun H => ev_op (ev_var rfl) (ev_var rfl) (rv_addS (by omega))) fun H => .str _)
      (cda_cons hS.mem (cd_ev (fun H => ev_op ev_c (ev_var rfl) (rv_addS (by simp only [ka, kb, kz]; omega))) fun H => .str _) (cda_cons hS.mem (cd_ev (fun H => ev_c) fun H => .str _) cda_nil))))))) (by simp)) (fun H => ev_is (ev_op (ev_var rfl) ev_c rv_sub) (by rw [hj]; congr 1; omega)) hd' H3 (Fr.refl f3.bag) _ fun v' H4 f4 hv => ?_
    exact q v' d' H4 (f3.trans f4) hv (hl d' (List.mem_of_getElem? hd'))
  · refine s_seq (s_if (b := false) (et_and (a := false) (b := false) (et_B (ev_int (ev_var rfl) (dp_same (x2.trans x3) _ _ hd2))) fun e => by cases e) (fun e => by cases e) fun _ H4 x4 => s_next ?_)
    have f4 := f2.trans (Fr.ex f2.bag (x3.trans x4))
    exact odd_of rfl f4.bag (hS.fr f4) fun v' d' H' fr h1 h2 => q v' d' H' (f4.trans fr) h1 h2
theorem body_int {kT kO k n : Nat} (N : Names mg) (dT : Own P w K mg base "_law_take" ["bag", "man1"] kT spTake) (hT : kT ≤ k) (dO : Own P w K mg base "_law_odd" ["bag"] kO (spNew K (gd 0 3))) (hO : kO ≤ k) (i : Int) : Body P w K mg base k n (.int i) := by
  intro f cdv A outer s H b v S c Q E hr hB hS hd hg hc q
  refine ⟨_, pss_cons (ps_set (i := 2) scSp.nd rfl (.inl rfl) (pe_own dT hr hT (by rfl) (pa_cons (pv 0) (pa_cons pe_int pa_nil))))
      (pss_cons (ps_if (PW.pt (pw_and (pt_val (pe_callB call_isiT (by rfl) N.isinstance boot_isinstance (pa_cons (pv 1) (pa_cons (pe_tup (pa_cons (pe_bltn (v := .ty "tuple") (by rfl) N.tuple boot_tuple rfl) (pa_cons (pe_bltn (v := .ty "list") (by rfl) N.list boot_list rfl) pa_nil))) pa_nil)))) (pw_and (pt_cmpR op_gt (pe_callB call_len_seq (by rfl) N.len PySem.boot_len (pa_cons (pv 1) pa_nil)) pe_int (nomark _)) (pw_and1 (pt_cmpR op_gt (pv 2) pe_int (nomark _)))))) pss_never pss_nil)
      (pss_cons (ps_if (PW.pt (pw_and (pt_val (pe_callB call_isi (by rfl) N.isinstance boot_isinstance (pa_cons (pv 1) (pa_cons (pe_bltn (v := .ty "str") (by rfl) N.str boot_str rfl) pa_nil)))) (pw_and1 (pt_cmpR op_gt (pv 2) pe_int (nomark _))))) pss_never pss_nil)
      (pss_cons (ps_if (PW.pt (pw_and (pt_val (pe_callB call_isi (by rfl) N.isinstance boot_isinstance (pa_cons (pv 1) (pa_cons (pe_bltn (v := .ty "int") (by rfl) N.int boot_int rfl) pa_nil)))) (pw_and1 (pt_cmpR op_gt (pv 2) pe_int (nomark _))))) (pss_one (ps_ret (pe_ix ix_list (pe_lst (pa_cons (pe_op op_add (pv 1) pe_int) (pa_cons (pe_op op_sub (pv 1) pe_int) (pa_cons (pe_un un_neg (pv 1)) (pa_cons (pe_op op_add (pv 1) pe_int) (pa_cons (pe_callTy call_str_int (by rfl) N.str boot_str (pa_cons (pv 1) pa_nil)) (pa_cons (pe_op op_add (pv 1) pe_int) (pa_cons (pe_tup (pa_cons (pv 1) pa_nil)) pa_nil)))))))) (pe_op op_sub (pv 2) pe_int) (fun _ _ => rfl)))) pss_nil)
      (pss_one (ps_ret (pe_own dO hr hO (by rfl) (pa_cons (pv 0) pa_nil))))))), ?_⟩
  refine s_seq (take_of (b := b) (m := 9) hB (ea_cons (ev_var rfl) (ea_cons ev_c ea_nil)) (by decide) (by decide) fun r H1 f1 r0 r1 => ?_)
  have hd1 := dp_same (cut_sm hS.mem f1) _ _ hd
  have hd2 := dp_same (cut_same S H1) _ _ hd1
  have hp1 := pow_bd (c := c + 1) (by omega)
  have big : (1000000 : Nat) ≤ 10 ^ 31 := by decide
  cases hd with
  | int =>
  refine s_seq (s_if (b := false) (et_and (a := false) (b := false) (et_B (ev_isiT (ev_var rfl) hd2)) fun e => by cases e) (fun e => by cases e) fun _ H2 x2 => s_next ?_)
  refine s_seq (s_if (b := false) (et_and (a := false) (b := false) (et_B (ev_str (ev_var rfl) (dp_same x2 _ _ hd2))) fun e => by cases e) (fun e => by cases e) fun _ H3 x3 => s_next ?_)
  have f3 := f1.trans (Fr.ex f1.bag (x2.trans x3))
  refine s_seq (s_if (et_and (a := true) (et_B (ev_int (ev_var rfl) (dp_same (x2.trans x3) _ _ hd2))) fun _ => et_test (ev_op (ev_var rfl) ev_c rv_I0)) (fun e H4 x4 => ?_) fun e H4 x4 => s_next ?_)
  · have e1 : (1 : Int) < r := of_decide_eq_true e
    obtain ⟨j, hj⟩ : ∃ j : Nat, r = (j : Int) + 2 := ⟨(r - 2).toNat, by omega⟩
    have hj7 : j < 7 := by omega
    have f4 := f3.trans (Fr.ex f3.bag x4)
    have hl : ∀ d ∈ [PyData.int (i + 1), .int (i - 1), .int (-i), .int (i + 1000), .str (toString i), .int (i + 50), .tuple [.int i]], gd (c + 1) (n + 3) d = true := by
      have hi := gd_int.mp hg
      have ht := text_len (i := i) (c := c) (by omega) hi
      intro d m
      simp only [List.mem_cons, List.not_mem_nil, or_false] at m
      rcases m with rfl | rfl | rfl | rfl | rfl | rfl | rfl
      · exact gd_int.mpr (by omega)
      · exact gd_int.mpr (by omega)
      · exact gd_int.mpr (by omega)
      · exact gd_int.mpr (by omega)
      · exact gd_str.mpr (by omega)
      · exact gd_int.mpr (by omega)
      · refine gd_tup.mpr ⟨by simp only [List.length_cons, List.length_nil]; omega, fun d m => ?_⟩
        rw [List.mem_singleton.mp m]
        exact gd_int.mpr (by omega)
    obtain ⟨d', hd'⟩ : ∃ d', [PyData.int (i + 1), .int (i - 1), .int (-i), .int (i + 1000), .str (toString i), .int (i + 50), .tuple [.int i]][j]? = some d' := ⟨_, List.getElem?_eq_getElem (by simpa using hj7)⟩
    refine cd_item (S := S) (b := b) hS.mem (cdl_lst hS.mem (cda_cons hS.mem (cd_ev (fun H => ev_op (ev_var rfl) ev_c rv_add) fun H => .int _) (cda_cons hS.mem (cd_ev (fun H => ev_op (ev_var rfl) ev_c rv_sub) fun H => .int _) (cda_cons hS.mem (cd_ev (fun H => ev_un (ev_var rfl) ru_neg) fun H => .int _) (cda_cons hS.mem (cd_ev (fun H => ev_op (ev_var rfl) ev_c rv_add) fun H => .int _) (cda_cons hS.mem (cd_ev (fun H => ev_strI (ev_var rfl) (log_small (by omega) (gd_int.mp hg))) fun H => .str _) (cda_cons hS.mem (cd_ev (fun H => ev_op (ev_var rfl) ev_c rv_add) fun H => .int _) (cda_cons hS.mem (cd_tup (hS.fr f4) (cda_cons hS.mem (cd_ev (fun H => ev_var rfl) fun H => .int _) cda_nil) (by simp)) cda_nil))))))) (by simp)) (fun H => ev_is (ev_op (ev_var rfl) ev_c rv_sub) (by rw [hj]; congr 1; omega)) hd' H4 (Fr.refl f4.bag) _ fun v' H5 f5 hv => ?_
    exact q v' d' H5 (f4.trans f5) hv (hl d' (List.mem_of_getElem? hd'))
  · have f4 := f3.trans (Fr.ex f3.bag x4)
    exact odd_of rfl f4.bag (hS.fr f4) fun v' d' H' fr h1 h2 => q v' d' H' (f4.trans fr) h1 h2
theorem body_bool {kT kO k n : Nat} (N : Names mg) (dT : Own P w K mg base "_law_take" ["bag", "man1"] kT spTake) (hT : kT ≤ k) (dO : Own P w K mg base "_law_odd" ["bag"] kO (spNew K (gd 0 3))) (hO : kO ≤ k) (i : Bool) : Body P w K mg base k n (.bool i) := by
  intro f cdv A outer s H b v S c Q E hr hB hS hd hg hc q
  refine ⟨_, pss_cons (ps_set (i := 2) scSp.nd rfl (.inl rfl) (pe_own dT hr hT (by rfl) (pa_cons (pv 0) (pa_cons pe_int pa_nil))))
      (pss_cons (ps_if (PW.pt (pw_and (pt_val (pe_callB call_isiT (by rfl) N.isinstance boot_isinstance (pa_cons (pv 1) (pa_cons (pe_tup (pa_cons (pe_bltn (v := .ty "tuple") (by rfl) N.tuple boot_tuple rfl) (pa_cons (pe_bltn (v := .ty "list") (by rfl) N.list boot_list rfl) pa_nil))) pa_nil)))) (pw_and (pt_cmpR op_gt (pe_callB call_len_seq (by rfl) N.len PySem.boot_len (pa_cons (pv 1) pa_nil)) pe_int (nomark _)) (pw_and1 (pt_cmpR op_gt (pv 2) pe_int (nomark _)))))) pss_never pss_nil)
      (pss_cons (ps_if (PW.pt (pw_and (pt_val (pe_callB call_isi (by rfl) N.isinstance boot_isinstance (pa_cons (pv 1) (pa_cons (pe_bltn (v := .ty "str") (by rfl) N.str boot_str rfl) pa_nil)))) (pw_and1 (pt_cmpR op_gt (pv 2) pe_int (nomark _))))) pss_never pss_nil)
      (pss_cons (ps_if (PW.pt (pw_and (pt_val (pe_callB call_isi (by rfl) N.isinstance boot_isinstance (pa_cons (pv 1) (pa_cons (pe_bltn (v := .ty "int") (by rfl) N.int boot_int rfl) pa_nil)))) (pw_and1 (pt_cmpR op_gt (pv 2) pe_int (nomark _))))) (pss_one (ps_ret (pe_ix ix_list (pe_lst (pa_cons (pe_op op_add_bi (pv 1) pe_int) (pa_cons (pe_op op_sub_bi (pv 1) pe_int) (pa_cons (pe_un un_neg_b (pv 1)) (pa_cons (pe_op op_add_bi (pv 1) pe_int) (pa_cons (pe_callTy call_str_b (by rfl) N.str boot_str (pa_cons (pv 1) pa_nil)) (pa_cons (pe_op op_add_bi (pv 1) pe_int) (pa_cons (pe_tup (pa_cons (pv 1) pa_nil)) pa_nil)))))))) (pe_op op_sub (pv 2) pe_int) (fun _ _ => rfl)))) pss_nil)
      (pss_one (ps_ret (pe_own dO hr hO (by rfl) (pa_cons (pv 0) pa_nil))))))), ?_⟩
  refine s_seq (take_of (b := b) (m := 9) hB (ea_cons (ev_var rfl) (ea_cons ev_c ea_nil)) (by decide) (by decide) fun r H1 f1 r0 r1 => ?_)
  have hd1 := dp_same (cut_sm hS.mem f1) _ _ hd
  have hd2 := dp_same (cut_same S H1) _ _ hd1
  have hp1 := pow_bd (c := c + 1) (by omega)
  have big : (1000000 : Nat) ≤ 10 ^ 31 := by decide
  cases hd with
  | bl =>
  refine s_seq (s_if (b := false) (et_and (a := false) (b := false) (et_B (ev_isiT (ev_var rfl) hd2)) fun e => by cases e) (fun e => by cases e) fun _ H2 x2 => s_next ?_)
  refine s_seq (s_if (b := false) (et_and (a := false) (b := false) (et_B (ev_str (ev_var rfl) (dp_same x2 _ _ hd2))) fun e => by cases e) (fun e => by cases e) fun _ H3 x3 => s_next ?_)
  have f3 := f1.trans (Fr.ex f1.bag (x2.trans x3))
  refine s_seq (s_if (et_and (a := true) (et_B (ev_int (ev_var rfl) (dp_same (x2.trans x3) _ _ hd2))) fun _ => et_test (ev_op (ev_var rfl) ev_c rv_I0)) (fun e H4 x4 => ?_) fun e H4 x4 => s_next ?_)
  · have e1 : (1 : Int) < r := of_decide_eq_true e
    obtain ⟨j, hj⟩ : ∃ j : Nat, r = (j : Int) + 2 := ⟨(r - 2).toNat, by omega⟩
    have hj7 : j < 7 := by omega
    have f4 := f3.trans (Fr.ex f3.bag x4)
    have hl : ∀ d ∈ [PyData.int ((if i = true then (1 : Int) else 0) + 1), .int ((if i = true then (1 : Int) else 0) - 1), .int (-(if i = true then (1 : Int) else 0)), .int ((if i = true then (1 : Int) else 0) + 1000), .str (if i = true then "True" else "False"), .int ((if i = true then (1 : Int) else 0) + 50), .tuple [.bool i]], gd (c + 1) (n + 3) d = true := by
      have t1 : (Str.ofString "True").length = 4 := by decide
      have t2 : (Str.ofString "False").length = 5 := by decide
      intro d m
      simp only [List.mem_cons, List.not_mem_nil, or_false] at m
      rcases m with rfl | rfl | rfl | rfl | rfl | rfl | rfl
      · exact gd_int.mpr (by cases i <;> simp <;> omega)
      · exact gd_int.mpr (by cases i <;> simp <;> omega)
      · exact gd_int.mpr (by cases i <;> simp <;> omega)
      · exact gd_int.mpr (by cases i <;> simp <;> omega)
      · exact gd_str.mpr (by cases i <;> simp only [if_true, Bool.false_eq_true, if_false] <;> omega)
      · exact gd_int.mpr (by cases i <;> simp <;> omega)
      · refine gd_tup.mpr ⟨by simp only [List.length_cons, List.length_nil]; omega, fun d m => ?_⟩
        rw [List.mem_singleton.mp m]
        rfl
    obtain ⟨d', hd'⟩ : ∃ d', [PyData.int ((if i = true then (1 : Int) else 0) + 1), .int ((if i = true then (1 : Int) else 0) - 1), .int (-(if i = true then (1 : Int) else 0)), .int ((if i = true then (1 : Int) else 0) + 1000), .str (if i = true then "True" else "False"), .int ((if i = true then (1 : Int) else 0) + 50), .tuple [.bool i]][j]? = some d' := ⟨_, List.getElem?_eq_getElem (by simpa using hj7)⟩
    refine cd_item (S := S) (b := b) hS.mem (cdl_lst hS.mem (cda_cons hS.mem (cd_ev (fun H => ev_op (ev_var rfl) ev_c rv_addB) fun H => .int _) (cda_cons hS.mem (cd_ev (fun H => ev_op (ev_var rfl) ev_c rv_subB) fun H => .int _) (cda_cons hS.mem (cd_ev (fun H => ev_un (ev_var rfl) ru_negB) fun H => .int _) (cda_cons hS.mem (cd_ev (fun H => ev_op (ev_var rfl) ev_c rv_addB) fun H => .int _) (cda_cons hS.mem (cd_ev (fun H => ev_strB (ev_var rfl)) fun H => .str _) (cda_cons hS.mem (cd_ev (fun H => ev_op (ev_var rfl) ev_c rv_addB) fun H => .int _) (cda_cons hS.mem (cd_tup (hS.fr f4) (cda_cons hS.mem (cd_ev (fun H => ev_var rfl) fun H => .bl _) cda_nil) (by simp)) cda_nil))))))) (by simp)) (fun H => ev_is (ev_op (ev_var rfl) ev_c rv_sub) (by rw [hj]; congr 1; omega)) hd' H4 (Fr.refl f4.bag) _ fun v' H5 f5 hv => ?_
    exact q v' d' H5 (f4.trans f5) hv (hl d' (List.mem_of_getElem? hd'))
  · have f4 := f3.trans (Fr.ex f3.bag x4)
    exact odd_of rfl f4.bag (hS.fr f4) fun v' d' H' fr h1 h2 => q v' d' H' (f4.trans fr) h1 h2
end
end K13
namespace K13
open PySem L2 PyProof.Rows Tc Evl
section
variable {P : Program} {w : World} {K : PySem.W.Frag} {mg : Str → Option Value} {base : Heap}
theorem cont_dp {H : Hp} {v : V} {d : PyData} {ds : List PyData} (hk : d = .tuple ds ∨ d = .list ds) (h : Dp K H v d) : ∃ a xs, v = .ref a ∧ SQ K H a xs ∧ DpAll K H xs ds := by
  rcases hk with rfl | rfl
  · cases h with
    | tup h r => exact ⟨_, _, rfl, .inr h, r⟩
  · cases h with
    | lst h r => exact ⟨_, _, rfl, .inl h, r⟩
theorem g_name {i : Nat} {v : V} {σ : L2.St} {H : Hp} {Q : L2.St → Hp → Prop} (h : Q (σ.set i (some v)) H) : gName i v σ H Q := h
theorem t_asg {te : TE} {g : TG} {D : Ends} {σ : L2.St} {H : Hp} (h : te σ H fun x H1 => g x σ H1 D.nx) : tAsg te g D σ H := h
/-- the lists under work behind the ways -/
def Mid (b a : Addr) (K : PySem.W.Frag) (S : Addr → Prop) (H : Hp) (r at' : Int) (c m : Nat) (d : PyData) (σ' : L2.St) (H' : Hp) : Prop := ∃ (l : Addr) (y5 : Option V) (ws : List V) (es : List PyData), σ' = [some (.ref b), some (.ref a), some (.int r), some (.ref l), some (.int at'), y5] ∧ Fr b H H' ∧ l ≠ b ∧ H' l = some (.lst ws) ∧ ¬ S l ∧
  DpAll K (cut (also S l) H') ws es ∧ (∀ e ∈ es, gd (c + 1) (m + 3) e = true) ∧ es.length ≤ 1101 + c ∧ Dp K H' (.ref a) d
set_option maxHeartbeats 1000000 in
theorem body_cont {kT kO kS k m : Nat} (N : Names mg) (dT : Own P w K mg base "_law_take" ["bag", "man1"] kT spTake) (hT : kT ≤ k) (dO : Own P w K mg base "_law_odd" ["bag"] kO (spNew K (gd 0 3))) (hO : kO ≤ k) (dS : Own P w K mg base "_law_spoilt" ["bag", "thing"] kS (spSp K m)) (hkS : kS ≤ k) (d : PyData) (ds : List PyData) (hk : d = .tuple ds ∨ d = .list ds) : Body P w K mg base k (m + 1) d := by
  intro f cdv A outer s H b v S c Q E hr hB hS hd hg hc q
  obtain ⟨a, xs, rfl, hsq, hA⟩ := cont_dp hk hd
  have hgl : ds.length ≤ 1100 + c ∧ ∀ e ∈ ds, gd c m e = true := by
    rcases hk with rfl | rfl
    · exact gd_tup.mp hg
    · exact gd_lst.mp hg
  have hin : isTup d || isLst d = true := by rcases hk with rfl | rfl <;> rfl
  have hno : isStr d = false ∧ isInt d = false := by rcases hk with rfl | rfl <;> exact ⟨rfl, rfl⟩
  have hl := dps_len hA
  refine ⟨_, pss_cons (ps_set (i := 2) scSp.nd rfl (.inl rfl) (pe_own dT hr hT (by rfl) (pa_cons (pv 0) (pa_cons pe_int pa_nil))))
      (pss_cons (ps_if (PW.pt (pw_and (pt_val (pe_callB call_isiT (by rfl) N.isinstance boot_isinstance (pa_cons (pv 1) (pa_cons (pe_tup (pa_cons (pe_bltn (v := .ty "tuple") (by rfl) N.tuple boot_tuple rfl) (pa_cons (pe_bltn (v := .ty "list") (by rfl) N.list boot_list rfl) pa_nil))) pa_nil)))) (pw_and (pt_cmpR op_gt (pe_callB call_len_seq (by rfl) N.len PySem.boot_len (pa_cons (pv 1) pa_nil)) pe_int (nomark _)) (pw_and1 (pt_cmpR op_gt (pv 2) pe_int (nomark _)))))) (pss_cons (ps_set (i := 3) scSp.nd rfl (.inl rfl) (pe_callTy call_list_of (by rfl) N.list boot_list (pa_cons (pv 1) pa_nil))) (pss_cons (ps_set (i := 4) scSp.nd rfl (.inl rfl) (pe_own dT hr hT (by rfl) (pa_cons (pv 0) (pa_cons (pe_callB call_len_seq (by rfl) N.len PySem.boot_len (pa_cons (pv 3) pa_nil)) pa_nil)))) (Evl.pss_cut (ps_if (pt_cmpR op_eq (pv 2) pe_int (nomark _)) (pss_one (ps_set (i := 3) scSp.nd rfl (.inl rfl) (pe_op op_cat (pe_slice sl_list (pv 3) po_none (po_some (pv 4))) (pe_slice sl_list (pv 3) (po_some (pe_op op_add (pv 4) pe_int)) po_none)))) (pss_one (ps_if (pt_cmpR op_eq (pv 2) pe_int (nomark _)) (pss_one (ps_set (i := 3) scSp.nd rfl (.inl rfl) (pe_op op_cat (pe_slice sl_list (pv 3) po_none (po_some (pe_op op_add (pv 4) pe_int))) (pe_slice sl_list (pv 3) (po_some (pv 4)) po_none)))) (pss_one (ps_if (pt_cmpR op_eq (pv 2) pe_int (nomark _)) (pss_cons (ps_set (i := 5) scSp.nd rfl (.inl rfl) (pe_own dT hr hT (by rfl) (pa_cons (pv 0) (pa_cons (pe_callB call_len_seq (by rfl) N.len PySem.boot_len (pa_cons (pv 3) pa_nil)) pa_nil)))) (pss_one (ps_asg (pe_tup (pa_cons (pe_ix ix_list (pv 3) (pv 5) (fun _ _ => rfl)) (pa_cons (pe_ix ix_list (pv 3) (pv 4) (fun _ _ => rfl)) pa_nil))) (pg_tup rfl (pgs_cons (pg_sub (pv 3) (pv 4) set_list) (pgs_cons (pg_sub (pv 3) (pv 5) set_list) pgs_nil)))))) (pss_one (ps_if (pt_cmpR op_eq (pv 2) pe_int (nomark _)) (pss_one (ps_ret (pe_ifExp (pt_val (pe_callB call_isi (by rfl) N.isinstance boot_isinstance (pa_cons (pv 1) (pa_cons (pe_bltn (v := .ty "tuple") (by rfl) N.tuple boot_tuple rfl) pa_nil)))) (pv 3) (pe_callTy call_tuple_of (by rfl) N.tuple boot_tuple (pa_cons (pv 3) pa_nil))))) (pss_one (ps_asg (pe_own dS hr hkS (by rfl) (pa_cons (pv 0) (pa_cons (pe_ix ix_list (pv 3) (pv 4) (fun _ _ => rfl)) pa_nil))) (pg_sub (pv 3) (pv 4) set_list)))))))))) (pss_one (ps_ret (pe_ifExp (pt_val (pe_callB call_isi (by rfl) N.isinstance boot_isinstance (pa_cons (pv 1) (pa_cons (pe_bltn (v := .ty "tuple") (by rfl) N.tuple boot_tuple rfl) pa_nil)))) (pe_callTy call_tuple_of (by rfl) N.tuple boot_tuple (pa_cons (pv 3) pa_nil)) (pv 3))))))) pss_nil)
      (pss_cons (ps_if (PW.pt (pw_and (pt_val (pe_callB call_isi (by rfl) N.isinstance boot_isinstance (pa_cons (pv 1) (pa_cons (pe_bltn (v := .ty "str") (by rfl) N.str boot_str rfl) pa_nil)))) (pw_and1 (pt_cmpR op_gt (pv 2) pe_int (nomark _))))) pss_never pss_nil)
      (pss_cons (ps_if (PW.pt (pw_and (pt_val (pe_callB call_isi (by rfl) N.isinstance boot_isinstance (pa_cons (pv 1) (pa_cons (pe_bltn (v := .ty "int") (by rfl) N.int boot_int rfl) pa_nil)))) (pw_and1 (pt_cmpR op_gt (pv 2) pe_int (nomark _))))) pss_never pss_nil)
      (pss_one (ps_ret (pe_own dO hr hO (by rfl) (pa_cons (pv 0) pa_nil))))))), ?_⟩
  refine s_seq (take_of (b := b) (m := 9) hB (ea_cons (ev_var rfl) (ea_cons ev_c ea_nil)) (by decide) (by decide) fun r H1 f1 r0 r1 => ?_)
  have hd1 := dp_same (cut_sm hS.mem f1) _ _ hd
  have hd2 := dp_same (cut_same S H1) _ _ hd1
  have hs1 := (hsq.same (cut_sm hS.mem f1)).same (cut_same S H1)
  refine s_seq (s_if (et_and (et_B (ev_isiT (ev_var rfl) hd2)) fun _ => et_and (et_test (ev_op (ev_lenQ (ev_var rfl) hs1) ev_c rv_I0)) fun _ => et_test (ev_op (ev_var rfl) ev_c rv_I0)) (fun e H2 x2 => ?_) fun e H2 x2 => s_next ?_)
  · simp only [Bool.and_eq_true, decide_eq_true_eq] at e
    obtain ⟨_, hn, hr0⟩ := e
    have f2 := f1.trans (Fr.ex f1.bag x2)
    refine s_seq ⟨.ref a, rfl, a, xs, rfl, hs1.same x2, fun l hl2 => ?_⟩
    have hlb : l ≠ b := f2.bag.ne hl2
    have f3 := f2.trans (Fr.new (o := .lst xs) f2.bag hl2)
    have hlH : H l = none := fr_back' f2 hl2
    have hSl : ¬ S l := hS.new hlH
    refine s_seq (take_of (b := b) (m := (xs.length : Int)) f3.bag (ea_cons (ev_var rfl) (ea_cons (ev_lenQ (K := K) (xs := xs) (ev_var rfl) (.inl (sq_of upd_same))) ea_nil)) hn (by omega) fun at' H4 f4 a0 a1 => ?_)
    have f04 := f3.trans f4
    have h4l : H4 l = some (.lst xs) := f4.at upd_same hlb
    obtain ⟨j, rfl⟩ : ∃ j : Nat, at' = (j : Int) := ⟨at'.toNat, by omega⟩
    have hj : j < xs.length := by omega
    have hxj : xs[j]? = some xs[j] := List.getElem?_eq_getElem hj
    obtain ⟨dj, hdj, hdj2⟩ := dps_at hA hxj
    have hA4 : DpAll K (cut (also S l) H4) xs ds := dps_same (also_new hS.mem f04 hlH) _ _ hA
    have hd4 : Dp K H4 (.ref a) d := dp_same (cut_same S H4) _ _ (dp_same (cut_sm hS.mem f04) _ _ hd)
    have up : ∀ e ∈ ds, gd (c + 1) (m + 3) e = true := fun e m1 => gd_le (gd_lc (hgl.2 e m1) (by omega)) (by omega)
    refine ⟨Mid b a K S H r j c m d, ?_, fun σ' H' hM => ?_⟩
    · refine s_if (et_test (ev_op (ev_var rfl) ev_c (rv_eq rfl))) (fun e1 H5 x5 => ?_) (fun e1 H5 x5 => ?_)
      · refine s_asgL (el_cat (el_sl (K := K) (lo := none) (hi := some (j : Int)) (ev_var rfl) eo_none (eo_some (ev_var rfl)) (sq_of (x5 l _ h4l))) (el_sl (K := K) (lo := some ((j + 1 : Nat) : Int)) (hi := none) (ev_var rfl) (eo_some (ev_is (ev_op (ev_var rfl) ev_c rv_add) (congrArg V.int (by omega)))) eo_none (sq_of (x5 l _ h4l))) ?_) fun p H6 hp x6 h6 => ?_
        · have := cut_len1 xs j
          have := cut_len2 xs (j + 1)
          omega
        · have f5 := f04.trans (Fr.ex f04.bag x5)
          have f6 := f5.trans (Fr.ex f5.bag x6)
          have hpH : H p = none := fr_back' f5 hp
          obtain ⟨e1, q1, q2⟩ := dps_cut none (some (j : Int)) hA
          obtain ⟨e2, q3, q4⟩ := dps_cut (some ((j + 1 : Nat) : Int)) none hA
          refine ⟨p, _, _, e1 ++ e2, rfl, f6, f5.bag.ne hp, h6, hS.new hpH, dps_same (also_new hS.mem f6 hpH) _ _ (dps_app q1 q3), fun e me => ?_, ?_, dp_same (x5.trans x6) _ _ hd4⟩
          · rcases List.mem_append.mp me with me | me
            · exact up e (q2 e me)
            · exact up e (q4 e me)
          · have := cut_len1 xs j
            have := cut_len2 xs (j + 1)
            have := dps_len q1
            have := dps_len q3
            rw [List.length_append]
            omega
      · refine s_if (et_test (ev_op (ev_var rfl) ev_c (rv_eq rfl))) (fun e2 H6 x6' => ?_) (fun e2 H6 x6' => ?_)
        · have x6 := x5.trans x6'
          refine s_asgL (el_cat (el_sl (K := K) (lo := none) (hi := some ((j + 1 : Nat) : Int)) (ev_var rfl) eo_none (eo_some (ev_is (ev_op (ev_var rfl) ev_c rv_add) (congrArg V.int (by omega)))) (sq_of (x6 l _ h4l))) (el_sl (K := K) (lo := some (j : Int)) (hi := none) (ev_var rfl) (eo_some (ev_var rfl)) eo_none (sq_of (x6 l _ h4l))) ?_) fun p H7 hp x7 h7 => ?_
          · have := cut_len1 xs (j + 1)
            have := cut_len2 xs j
            omega
          · have f5 := f04.trans (Fr.ex f04.bag x6)
            have f6 := f5.trans (Fr.ex f5.bag x7)
            have hpH : H p = none := fr_back' f5 hp
            obtain ⟨e1, q1, q2⟩ := dps_cut none (some ((j + 1 : Nat) : Int)) hA
            obtain ⟨e2, q3, q4⟩ := dps_cut (some (j : Int)) none hA
            refine ⟨p, _, _, e1 ++ e2, rfl, f6, f5.bag.ne hp, h7, hS.new hpH, dps_same (also_new hS.mem f6 hpH) _ _ (dps_app q1 q3), fun e me => ?_, ?_, dp_same (x6.trans x7) _ _ hd4⟩
            · rcases List.mem_append.mp me with me | me
              · exact up e (q2 e me)
              · exact up e (q4 e me)
            · have := cut_len1 xs (j + 1)
              have := cut_len2 xs j
              have := dps_len q1
              have := dps_len q3
              rw [List.length_append]
              omega
        · refine s_if (et_test (ev_op (ev_var rfl) ev_c (rv_eq rfl))) (fun e3 H7 x7' => ?_) (fun e3 H7 x7' => ?_)
          · have x7 := (x5.trans x6').trans x7'
            have f7 := f04.trans (Fr.ex f04.bag x7)
            refine s_seq (take_of (b := b) (m := (xs.length : Int)) f7.bag (ea_cons (ev_var rfl) (ea_cons (ev_lenQ (K := K) (xs := xs) (ev_var rfl) (.inl (sq_of (x7 l _ h4l)))) ea_nil)) hn (by omega) fun o H8 f8 o0 o1 => ?_)
            obtain ⟨i, rfl⟩ : ∃ i : Nat, o = (i : Int) := ⟨o.toNat, by omega⟩
            have hi : i < xs.length := by omega
            have hxi : xs[i]? = some xs[i] := List.getElem?_eq_getElem hi
            obtain ⟨di, hdi, hdi2⟩ := dps_at hA hxi
            have h8l : H8 l = some (.lst xs) := f8.at (x7 l _ h4l) hlb
            have hU : EvU (tTup (tCons (tOp (rIxL K) (tVar 3) (tVar 5)) (tCons (tOp (rIxL K) (tVar 3) (tVar 4)) tNil))) [some (.ref b), some (.ref a), some (.int r), some (.ref l), some (.int (j : Int)), some (.int (i : Int))] H8 [xs[i], xs[j]] :=
              eu_tup (ea_cons (ev_lx (K := K) (j := i) (ev_var rfl) (ev_var rfl) (sq_of h8l) hxi) (ea_cons (ev_lx (K := K) (j := j) (ev_var rfl) (ev_var rfl) (sq_of h8l) hxj) ea_nil)) (by simp)
            refine g_name (t_asg (hU H8 (Ex.refl H8) _ fun T H9 hT x9 h9 => ?_))
            refine ⟨T, _, rfl, st_of h9, rfl, _, _, rfl, .ref l, rfl, .int (j : Int), rfl, l, xs, j, j, rfl, rfl, x9 l _ h8l, ixN_nat hj, _, _, rfl, .ref l, rfl, .int (i : Int), rfl, l, xs.set j xs[i], i, i, rfl, rfl, upd_same, ixN_nat (by rw [List.length_set]; exact hi), rfl, ?_⟩
            have f9 := (f7.trans f8).trans (Fr.ex f8.bag x9)
            refine ⟨l, _, _, (ds.set j di).set i dj, rfl, Fr.mut (Fr.mut f9 hlH hlb) hlH hlb, hlb, upd_same, hSl, ?_, fun e me => ?_, ?_, ?_⟩
            · rw [cut_upd (.inr rfl), cut_upd (.inr rfl)]
              have hA9 : DpAll K (cut (also S l) H9) xs ds := dps_same (also_new hS.mem f9 hlH) _ _ hA
              exact dps_set i (dps_set j hA9 (dp_same (also_new hS.mem f9 hlH) _ _ hdi2)) (dp_same (also_new hS.mem f9 hlH) _ _ hdj2)
            · rcases mem_set me with me | me
              · rcases mem_set me with me | me
                · exact up e me
                · rw [me]
                  exact up _ (List.mem_of_getElem? hdi)
              · rw [me]
                exact up _ (List.mem_of_getElem? hdj)
            · rw [List.length_set, List.length_set]
              omega
            · have g9 := Fr.mut (o := .lst ((xs.set j xs[i]).set i xs[j])) (Fr.mut (o := .lst (xs.set j xs[i])) f9 hlH hlb) hlH hlb
              exact dp_same (cut_same S _) _ _ (dp_same (cut_sm hS.mem g9) _ _ hd)
          · refine s_if (et_test (ev_op (ev_var rfl) ev_c (rv_eq rfl))) (fun e4 H8 x8' => ?_) (fun e4 H8 x8' => ?_)
            · have x8 := ((x5.trans x6').trans x7').trans x8'
              refine et_B (ev_tuple (ev_var rfl) (dp_same x8 _ _ hd4)) H8 (Ex.refl H8) _ fun H9 x9 => ?_
              have f9 := f04.trans (Fr.ex f04.bag (x8.trans x9))
              have h9l : H9 l = some (.lst xs) := x9 l _ (x8 l _ h4l)
              have hA9 : DpAll K (cut (also S l) H9) xs ds := dps_same (also_new hS.mem f9 hlH) _ _ hA
              refine ite2 (fun _ => ⟨.ref l, rfl, q (.ref l) (.list ds) H9 f9 (.lst (sq_of (cut_at h9l hSl)) (dps_same also_same _ _ hA9)) ?_⟩) (fun _ => ⟨.ref l, rfl, l, xs, rfl, .inl ⟨sq_of h9l, fun p hp => q (.ref p) (.tuple ds) _ (f9.trans (Fr.new f9.bag hp)) (cdt_new (hS.fr f9) f9.bag hp (dps_same also_same _ _ hA9)) ?_⟩⟩)
              · exact gd_lst.mpr ⟨by omega, up⟩
              · exact gd_tup.mpr ⟨by omega, up⟩
            · have x8 := ((x5.trans x6').trans x7').trans x8'
              have f8 := f04.trans (Fr.ex f04.bag x8)
              have h8l : H8 l = some (.lst xs) := x8 l _ h4l
              refine ⟨.ref b, rfl, .ref l, rfl, .int (j : Int), rfl, l, xs, j, xs[j], rfl, rfl, sq_of h8l, atI_nat hxj, b, xs[j], dj, also S l, c, rfl, f8.bag, (hS.fr f8).also (by rw [h8l]; exact fun z => nomatch z), dp_same (also_new hS.mem f8 hlH) _ _ hdj2, hgl.2 _ (List.mem_of_getElem? hdj), hc, fun v' d' H9 f9 hv hg9 => ?_⟩
              have f09 := f8.trans f9
              refine ⟨.ref l, rfl, .int (j : Int), rfl, l, xs, j, j, rfl, rfl, f9.at h8l hlb, ixN_nat hj, ?_⟩
              refine ⟨l, _, _, ds.set j d', rfl, Fr.mut f09 hlH hlb, hlb, upd_same, hSl, ?_, fun e me => ?_, ?_, ?_⟩
              · rw [cut_upd (.inr rfl)]
                exact dps_set j (dps_same (also_new hS.mem f09 hlH) _ _ hA) hv
              · rcases mem_set me with me | me
                · exact up e me
                · rw [me]
                  exact hg9
              · rw [List.length_set]
                omega
              · exact dp_same (cut_same S _) _ _ (dp_same (cut_sm hS.mem (Fr.mut (o := .lst (xs.set j v')) f09 hlH hlb)) _ _ hd)
    · obtain ⟨l', y5, ws, es, rfl, fM, hlb', hM, hSl', hAM, hgM, hlM, hdM⟩ := hM
      refine et_B (ev_tuple (ev_var rfl) hdM) H' (Ex.refl H') _ fun H9 x9 => ?_
      have f9 := fM.trans (Fr.ex fM.bag x9)
      have h9l : H9 l' = some (.lst ws) := x9 l' _ hM
      have hA9 : DpAll K (cut S H9) ws es := dps_same (cut_sm hS.mem (Fr.ex fM.bag x9)) _ _ (dps_same also_same _ _ hAM)
      refine ite2 (fun _ => ⟨.ref l', rfl, l', ws, rfl, .inl ⟨sq_of h9l, fun p hp => q (.ref p) (.tuple es) _ (f9.trans (Fr.new f9.bag hp)) (cdt_new (hS.fr f9) f9.bag hp hA9) ?_⟩⟩) (fun _ => ⟨.ref l', rfl, q (.ref l') (.list es) H9 f9 (.lst (sq_of (cut_at h9l hSl')) hA9) ?_⟩)
      · exact gd_tup.mpr ⟨by omega, hgM⟩
      · exact gd_lst.mpr ⟨by omega, hgM⟩
  · refine s_seq (s_if (b := false) (et_and (a := false) (b := false) (et_B (ev_is (ev_str (ev_var rfl) (dp_same x2 _ _ hd2)) (by rw [hno.1]))) fun e => by cases e) (fun e => by cases e) fun _ H3 x3 => s_next ?_)
    refine s_seq (s_if (b := false) (et_and (a := false) (b := false) (et_B (ev_is (ev_int (ev_var rfl) (dp_same (x2.trans x3) _ _ hd2)) (by rw [hno.2]))) fun e => by cases e) (fun e => by cases e) fun _ H4 x4 => s_next ?_)
    have f4 := f1.trans (Fr.ex f1.bag ((x2.trans x3).trans x4))
    exact odd_of rfl f4.bag (hS.fr f4) fun v' d' H' fr h1 h2 => q v' d' H' (f4.trans fr) h1 h2
end
end K13
namespace K13
open PySem L2 PyProof.Rows Tc Evl
section
variable {P : Program} {w : World} {K : PySem.W.Frag} {mg : Str → Option Value} {base : Heap}
theorem ok_sp {f : Addr} {fd : FuncData} {kT kO k : Nat} (F : Fun K "_law_spoilt" "_law_spoilt" sSp f fd) (gS : mg "_law_spoilt" = some (.ref f)) (bS : Binds K fd ["bag", "thing"] []) (N : Names mg) (dT : Own P w K mg base "_law_take" ["bag", "man1"] kT spTake) (hT : kT ≤ k)
    (dO : Own P w K mg base "_law_odd" ["bag"] kO (spNew K (gd 0 3))) (hO : kO ≤ k) : ∀ n : Nat, FnOk P w K mg base CX0 (k + n + 1) f fd ["bag", "thing"] (spSp K n)
  | 0 => by
    refine F.ok scSp (fun vs H Q E h => ?_) (fun cdv A outer s H vs Q E hr h => ?_)
    · obtain ⟨b, v, d, S, c, rfl, _⟩ := h
      rfl
    · obtain ⟨b, v, d, S, c, rfl, hB, hS, hd, hg, hc, q⟩ := h
      cases d with
      | none => exact body_none N dT (by omega) dO (by omega) f cdv A outer s H b v S c Q E hr hB hS hd hg hc q
      | bool i => exact body_bool N dT (by omega) dO (by omega) i f cdv A outer s H b v S c Q E hr hB hS hd hg hc q
      | int i => exact body_int N dT (by omega) dO (by omega) i f cdv A outer s H b v S c Q E hr hB hS hd hg hc q
      | str i => exact body_str N dT (by omega) dO (by omega) i f cdv A outer s H b v S c Q E hr hB hS hd hg hc q
      | _ => cases hg
  | n + 1 => by
    have dS : Own P w K mg base "_law_spoilt" ["bag", "thing"] (k + n + 1) (spSp K n) := ⟨f, fd, ok_sp F gS bS N dT hT dO hO n, gS, F.kp, bS⟩
    refine F.ok scSp (fun vs H Q E h => ?_) (fun cdv A outer s H vs Q E hr h => ?_)
    · obtain ⟨b, v, d, S, c, rfl, _⟩ := h
      rfl
    · obtain ⟨b, v, d, S, c, rfl, hB, hS, hd, hg, hc, q⟩ := h
      cases d with
      | none => exact body_none N dT (by omega) dO (by omega) f cdv A outer s H b v S c Q E hr hB hS hd hg hc q
      | bool i => exact body_bool N dT (by omega) dO (by omega) i f cdv A outer s H b v S c Q E hr hB hS hd hg hc q
      | int i => exact body_int N dT (by omega) dO (by omega) i f cdv A outer s H b v S c Q E hr hB hS hd hg hc q
      | str i => exact body_str N dT (by omega) dO (by omega) i f cdv A outer s H b v S c Q E hr hB hS hd hg hc q
      | tuple ds => exact body_cont N dT (by omega) dO (by omega) dS (by omega) _ ds (.inl rfl) f cdv A outer s H b v S c Q E hr hB hS hd hg hc q
      | list ds => exact body_cont N dT (by omega) dO (by omega) dS (by omega) _ ds (.inr rfl) f cdv A outer s H b v S c Q E hr hB hS hd hg hc q
      | dict _ => cases hg
/-- the same at any depth up to twenty -/
def spSpU (K : PySem.W.Frag) : Sp := fun vs H Q E => ∃ n, n ≤ 20 ∧ spSp K n vs H Q E
theorem ok_spU {f : Addr} {fd : FuncData} {k : Nat} (h : ∀ n : Nat, n ≤ 20 → FnOk P w K mg base CX0 k f fd ["bag", "thing"] (spSp K n)) : FnOk P w K mg base CX0 k f fd ["bag", "thing"] (spSpU K) :=
  ⟨fun vs H Q E ⟨n, hn, p⟩ => (h n hn).len vs H Q E p, fun A outer s H args us vs Q E hr he hb hv ⟨n, hn, p⟩ => (h n hn).run A outer s H args us vs Q E hr he hb hv p⟩
end
end K13
namespace K13
open PySem L2 PyProof.Rows Tc Evl
def once (ks : List Int) : List Int := ((List.range 1000).map Int.ofNat).filter (fun k => decide (k ∈ ks))
theorem once_pw (ks : List Int) : (once ks).Pairwise (· < ·) := by
  unfold once
  refine List.Pairwise.filter _ (List.pairwise_map.mpr ?_)
  exact List.pairwise_lt_range.imp fun h => Int.ofNat_lt.mpr h
theorem once_mem (ks : List Int) (hb : ∀ k ∈ ks, 0 ≤ k ∧ k < 1000) (k : Int) : k ∈ once ks ↔ k ∈ ks := by
  unfold once
  rw [List.mem_filter, decide_eq_true_eq]
  refine ⟨fun h => h.2, fun h => ⟨?_, h⟩⟩
  have := hb k h
  exact List.mem_map.mpr ⟨k.toNat, List.mem_range.mpr (by omega), by
    show ((k.toNat : Nat) : Int) = k
    omega⟩
theorem once_len (ks : List Int) : (once ks).length ≤ 1000 := by
  unfold once
  refine Nat.le_trans (List.length_filter_le _ _) ?_
  rw [List.length_map, List.length_range]
  exact Nat.le_refl _
theorem once_few (ks : List Int) (hb : ∀ k ∈ ks, 0 ≤ k ∧ k < 1000) : (once ks).length ≤ ks.length := len_sub ((once_pw ks).imp fun {a b} z e => by omega) fun x m => (once_mem ks hb x).mp m
theorem cut_nat (us : List V) (lo hi : Nat) (h1 : lo ≤ hi) : cutV us (some (lo : Int)) (some (hi : Int)) = (us.drop lo).take (hi - lo) := by
  unfold cutV
  rw [HT.sIx_nat, HT.sIx_nat]
  refine List.ext_getElem? fun i => ?_
  rw [List.getElem?_take, List.getElem?_take, List.getElem?_drop, List.getElem?_drop]
  by_cases c : lo ≤ us.length
  · rw [Nat.min_eq_left c]
    by_cases d : i < hi - lo
    · rw [if_pos d]
      by_cases e : i < min hi us.length - lo
      · rw [if_pos e]
      · rw [if_neg e, List.getElem?_eq_none (by omega)]
    · rw [if_neg d, if_neg (by omega)]
  · rw [if_neg (by omega), List.getElem?_eq_none (l := us) (i := lo + i) (by omega)]
    split <;> rfl
theorem dps_cutN {K : PySem.W.Frag} {H : Hp} {us : List V} {ds : List PyData} (h : DpAll K H us ds) (lo n : Nat) : DpAll K H ((us.drop lo).take n) ((ds.drop lo).take n) := dps_take n (dps_drop lo h)
theorem en_kind {ks : List Int} {d : PyData} (h : goodEn ks d = true) : (∃ cs, d = .tuple [.str "group", .tuple cs] ∧ ∀ c ∈ cs, goodCh ks c = true) ∨ ∃ (s : Str) (i j : Int), d = .tuple [.str s, .int i, .int j] ∧ s ≠ "group" := by
  unfold goodEn at h
  split at h
  · rename_i s cs
    rw [Bool.and_eq_true, List.all_eq_true] at h
    rw [of_decide_eq_true h.1]
    exact .inl ⟨cs, rfl, h.2⟩
  · rename_i s i j
    refine .inr ⟨s, i, j, rfl, fun z => ?_⟩
    rw [decide_eq_true z] at h
    cases h
  · cases h
theorem ch_kindW {ks : List Int} {d : PyData} (h : goodCh ks d = true) : (∃ k, d = .tuple [.str "drop", .int k] ∧ k ∈ ks) ∨ ∃ (k z : Int), d = .tuple [.str "put", .int k, .int z] ∧ k ∈ ks ∧ (0 ≤ z ∧ z < 1000) := by
  unfold goodCh at h
  split at h
  · rename_i s k
    rw [Bool.and_eq_true] at h
    rw [of_decide_eq_true h.1]
    exact .inl ⟨k, rfl, of_decide_eq_true h.2⟩
  · rename_i s k z
    rw [Bool.and_eq_true, Bool.and_eq_true] at h
    rw [of_decide_eq_true h.1]
    exact .inr ⟨k, z, rfl, of_decide_eq_true h.2.1, of_decide_eq_true h.2.2⟩
  · cases h
theorem ch_kind {ks : List Int} {d : PyData} (h : goodCh ks d = true) : (∃ k, d = .tuple [.str "drop", .int k] ∧ k ∈ ks) ∨ ∃ (k z : Int), d = .tuple [.str "put", .int k, .int z] ∧ k ∈ ks := by
  rcases ch_kindW h with ⟨k, e, m⟩ | ⟨k, z, e, m, _⟩
  · exact .inl ⟨k, e, m⟩
  · exact .inr ⟨k, z, e, m⟩
def spKeysR : Sp := fun vs H Q _ => ∃ b : Addr, vs = [.ref b] ∧ Bag H b ∧ ∀ l (ks : List Int) H', Tc.Fr b H H' → KeysAt b H' l ks → ks.length < 64 → ks.Pairwise (· < ·) → Q (.ref l) H'
def spTabR (K : PySem.W.Frag) : Sp := fun vs H Q _ => ∃ (b l : Addr) (ks : List Int), vs = [.ref b, .ref l] ∧ Bag H b ∧ KeysAt b H l ks ∧ ∀ p rs H', Tc.Fr b H H' → TP K H' p rs → (∀ r ∈ rs, r.1 ∈ ks) → (∀ r ∈ rs, 0 ≤ r.2 ∧ r.2 < 1000) → rs.length ≤ ks.length → (ks.Pairwise (· < ·) → rs.Pairwise fun a b => a.1 < b.1) → Q (.ref p) H'
def spChsL (K : PySem.W.Frag) : Sp := fun vs H Q _ => ∃ (b l : Addr) (ks : List Int) (m : Int) (S : Addr → Prop), vs = [.ref b, .ref l, .int m] ∧ Bag H b ∧ Sok S b H ∧ KeysAt b H l ks ∧ 1 ≤ m ∧ m ≤ 6 ∧
  ∀ v ds H', Tc.Fr b H H' → Dp K (cut S H') v (.tuple ds) → (∀ d ∈ ds, goodCh ks d = true) → ds.length ≤ 6 → Q v H'
section
variable {P : Program} {w : World} {K : PySem.W.Frag} {mg : Str → Option Value} {base : Heap}
theorem dpt2 {H : Hp} {v : V} {d0 d1 : PyData} (h : Dp K H v (.tuple [d0, d1])) : ∃ a x0 x1, v = .ref a ∧ SqT K H a [x0, x1] ∧ Dp K H x0 d0 ∧ Dp K H x1 d1 := by
  cases h with
  | tup hs r =>
    cases r with
    | cons h0 r =>
      cases r with
      | cons h1 r =>
        cases r
        exact ⟨_, _, _, rfl, hs, h0, h1⟩
theorem dpt3 {H : Hp} {v : V} {d0 d1 d2 : PyData} (h : Dp K H v (.tuple [d0, d1, d2])) : ∃ a x0 x1 x2, v = .ref a ∧ SqT K H a [x0, x1, x2] ∧ Dp K H x0 d0 ∧ Dp K H x1 d1 ∧ Dp K H x2 d2 := by
  cases h with
  | tup hs r =>
    cases r with
    | cons h0 r =>
      cases r with
      | cons h1 r =>
        cases r with
        | cons h2 r =>
          cases r
          exact ⟨_, _, _, _, rfl, hs, h0, h1, h2⟩
abbrev sKeys : Stmt := topS 59
theorem scKeys : FnScope ["bag", "step", "first", "at"] ["bag"] (defScope sKeys) := ⟨rfl, rfl, rfl, by decide +kernel, rfl, by decide +kernel, by decide +kernel⟩
theorem ok_keys {f : Addr} {fd : FuncData} {k : Nat} (F : Fun K "_law_keys" "_law_keys" sKeys f fd) (N : Names mg) (dT : Own P w K mg base "_law_take" ["bag", "man1"] k spTake) : FnOk P w K mg base CX0 (k + 1) f fd ["bag"] spKeysR := by
  refine F.ok scKeys (fun vs H Q E h => ?_) (fun cdv A outer s H vs Q E hr h => ?_)
  · obtain ⟨b, rfl, _⟩ := h
    rfl
  · obtain ⟨b, rfl, hB, q⟩ := h
    refine ⟨_, pss_cons (ps_set (i := 1) scKeys.nd rfl (.inr rfl) (pe_ix ix_list (pe_lst (pa_cons pe_int (pa_cons pe_int (pa_cons pe_int (pa_cons pe_int pa_nil))))) (pe_own dT hr (Nat.le_refl _) (by rfl) (pa_cons (pv 0) (pa_cons pe_int pa_nil))) (fun _ _ => rfl)))
      (pss_cons (ps_set (i := 2) scKeys.nd rfl (.inr rfl) (pe_own dT hr (Nat.le_refl _) (by rfl) (pa_cons (pv 0) (pa_cons (pe_op op_sub pe_int (pe_op op_mul pe_int (pv 1))) pa_nil))))
      (pss_one (ps_ret (pe_callB (cr_sortedSetA rfl) (by rfl) N.sorted boot_sorted (pa_cons (pe_callTy (cr_setL rfl) (by rfl) N.set boot_set (pa_cons (pe_op op_cat (pe_lc (own := [("at", 3)]) (g := gName 3) (tt := tYes) (te := tOp (rI0 fun i j => .int (i + j)) (tVar 2) (tOp (rI CMul fun i j => .int (i * j)) (tVar 1) (tVar 3))) rfl scKeys.nd
          (pi_range1 rfl N.range (pa_cons pe_int pa_nil)) (blkOk_by (N := ["bag", "step", "first", "at"]) (sc := defScope sKeys) (by decide +kernel)) (fun _ _ _ _ _ => pg_name (i := 3) scKeys.nd rfl (Or.inl rfl)) (fun _ _ _ _ _ => pts_nil) (fun _ _ _ _ _ => pe_op op_add (pv 2) (pe_op op_mul (pv 1) (pv 3))))
        (pe_lst (pa_cons pe_int (pa_cons pe_int pa_nil)))) pa_nil)) pa_nil))))), ?_⟩
    refine s_seq (item_new (b := b) (xs := [.int 1, .int 2, .int 7, .int 90]) (el_lst (ea_cons ev_c (ea_cons ev_c (ea_cons ev_c (ea_cons ev_c ea_nil)))) (by simp)) hB (fun H1 f1 Q q => take_of (m := 4) f1.bag (ea_cons (ev_var rfl) (ea_cons ev_c ea_nil)) (by decide) (by decide) q) fun v H1 f1 hv => ?_)
    obtain ⟨st, rfl, hst⟩ : ∃ st : Int, v = .int st ∧ (st = 1 ∨ st = 2 ∨ st = 7 ∨ st = 90) := by
      simp only [List.mem_cons, List.not_mem_nil, or_false] at hv
      rcases hv with h | h | h | h <;> exact ⟨_, h, by simp⟩
    refine s_seq (take_of (b := b) (m := 1000 - 9 * st) f1.bag (ea_cons (ev_var rfl) (ea_cons (ev_op ev_c (ev_op ev_c (ev_var rfl) (rv_mul (.inl ⟨by decide, by decide⟩))) rv_sub) ea_nil)) (by omega) (by omega) fun r H2 f2 h0 h1 => ?_)
    have hks : ((List.range 10).map fun (i : Nat) => V.int (r + st * (i : Int))) ++ [V.int 0, V.int 999] = (((List.range 10).map fun (i : Nat) => r + st * (i : Int)) ++ [0, 999]).map V.int := by
      rw [List.map_append, List.map_map]
      rfl
    have hb : ∀ k ∈ ((List.range 10).map fun (i : Nat) => r + st * (i : Int)) ++ [0, 999], 0 ≤ k ∧ k < 1000 := fun k m => by
      rcases List.mem_append.mp m with m | m
      · obtain ⟨i, hi, rfl⟩ := List.mem_map.mp m
        have := List.mem_range.mp hi
        rcases hst with h | h | h | h <;> subst h <;> omega
      · simp only [List.mem_cons, List.not_mem_nil, or_false] at m
        omega
    refine s_retL (el_sortset (ns := ((List.range 10).map fun (i : Nat) => r + st * (i : Int)) ++ [0, 999]) (ms := once (((List.range 10).map fun (i : Nat) => r + st * (i : Int)) ++ [0, 999])) (el_is (el_cat (xs := (List.range 10).map fun (i : Nat) => V.int (r + st * (i : Int))) (el_is (el_lcR1 (n := 10) (fun _ => true) (fun i => V.int (r + st * (i : Int))) (ea_cons ev_c ea_nil) (by decide) (fun x => rfl) (fun i H1 e hi => et_yes)
      (fun i H1 e hi _ => ev_op (ev_var rfl) (ev_op (ev_var rfl) (ev_var rfl) (rv_mul (.inl ?_))) rv_add)) (given_all _ _)) (el_lst (ea_cons ev_c (ea_cons ev_c ea_nil)) (by simp)) (by simp)) hks) (by simp) fun l h3 h4 => rising_one l _ h3 (once_pw _) fun k => (h4 k).trans (once_mem _ hb k).symm) fun p H3 hp x3 h3 => ?_
    · rcases hst with h | h | h | h <;> subst h <;> decide
    · exact q p _ H3 ((f1.trans f2).trans (Fr.ex f2.bag x3)) ⟨f2.bag.ne hp, h3, fun k m => hb k ((once_mem _ hb k).mp m), once_len _, List.length_pos_of_mem ((once_mem _ hb 0).mpr (by simp))⟩ (Nat.lt_of_le_of_lt (once_few _ hb) (by simp)) (once_pw _)
abbrev sOf : Stmt := topS 54
theorem scOf : FnScope ["bag", "some"] ["bag", "some"] (defScope sOf) := ⟨rfl, rfl, rfl, by decide +kernel, rfl, by decide +kernel, by decide +kernel⟩
theorem ok_of {f : Addr} {fd : FuncData} {kT kO kC k : Nat} (F : Fun K "_law_of" "_law_of" sOf f fd) (N : Names mg) (dT : Own P w K mg base "_law_take" ["bag", "man1"] kT spTake) (hT : kT ≤ k) : FnOk P w K mg base CX0 (k + 1) f fd ["bag", "some"] spOf := by
  refine F.ok scOf (fun vs H Q E h => ?_) (fun cdv A outer s H vs Q E hr h => ?_)
  · obtain ⟨b, l, ks, rfl, _⟩ := h
    rfl
  · obtain ⟨b, l, ks, rfl, hB, hk, q⟩ := h
    refine ⟨_, (pss_one (ps_ret (pe_ix ix_list (pv 1) (pe_own dT hr hT (by rfl) (pa_cons (pv 0) (pa_cons (pe_callB call_len_seq (by rfl) N.len PySem.boot_len (pa_cons (pv 1) pa_nil)) pa_nil))) (fun _ _ => rfl)))), ?_⟩
    refine ⟨.ref l, rfl, take_of (b := b) (m := (ks.length : Int)) hB (ea_cons (ev_var rfl) (ea_cons (ev_is (ev_len (ev_var rfl) (sq_of hk.h)) (by rw [List.length_map])) ea_nil)) (by have := hk.some; omega) (by have := hk.few; omega) fun r H1 f1 r0 r1 => ?_⟩
    obtain ⟨n, rfl⟩ : ∃ n : Nat, r = (n : Int) := ⟨r.toNat, by omega⟩
    have hn : n < ks.length := by omega
    exact ⟨l, ks.map V.int, n, .int ks[n], rfl, rfl, sq_of (hk.fr f1).h, atI_nat (by rw [List.getElem?_map, List.getElem?_eq_getElem hn]; rfl), q _ _ (List.getElem_mem hn) f1⟩
abbrev sTab : Stmt := topS 60
theorem scTab : FnScope ["bag", "keys", "key"] ["bag", "keys"] (defScope sTab) := ⟨rfl, rfl, rfl, by decide +kernel, rfl, by decide +kernel, by decide +kernel⟩
theorem ok_tab {f : Addr} {fd : FuncData} {k : Nat} (F : Fun K "_law_table" "_law_table" sTab f fd) (N : Names mg) (dT : Own P w K mg base "_law_take" ["bag", "man1"] k spTake) : FnOk P w K mg base CX0 (k + 1) f fd ["bag", "keys"] (spTabR K) := by
  refine F.ok scTab (fun vs H Q E h => ?_) (fun cdv A outer s H vs Q E hr h => ?_)
  · obtain ⟨b, l, ks, rfl, _⟩ := h
    rfl
  · obtain ⟨b, l, ks, rfl, hB, hka, q⟩ := h
    have hl := hka.h
    have hlb := hka.ne
    have hk := hka.bd
    have hn := hka.few
    refine ⟨_, pss_one (ps_ret (pe_callTy cr_tupP (by rfl) N.tuple boot_tuple (pa_cons (pe_lc (own := [("key", 2)]) (g := gName 2) (tt := tTest (tOp (rI0 fun i j => .bl (decide (j < i))) (tCall spTake [] E0 (tCons (tVar 0) (tCons (tC (.int 3)) tNil))) (tC (.int 0))))
        (te := tTup (tCons (tVar 2) (tCons (tCall spTake [] E0 (tCons (tVar 0) (tCons (tC (.int 1000)) tNil))) tNil))) rfl scTab.nd (pi_list (pv 1)) (blkOk_by (N := ["bag", "keys", "key"]) (sc := defScope sTab) (by decide +kernel)) (fun _ _ _ _ _ => pg_name (i := 2) scTab.nd rfl (Or.inl rfl))
        (fun _ _ _ _ _ => pts_one (pt_cmpR op_gt (pe_own dT hr (Nat.le_refl _) (by rfl) (pa_cons (pv 0) (pa_cons pe_int pa_nil))) pe_int (nomark _)))
        (fun _ _ _ _ _ => pe_tup (pa_cons (pv 2) (pa_cons (pe_own dT hr (Nat.le_refl _) (by rfl) (pa_cons (pv 0) (pa_cons pe_int pa_nil))) pa_nil)))) pa_nil))), ?_⟩
    refine ⟨.ref l, rfl, l, rfl, ⟨_, sq_of hl⟩, fun D hD => ?_⟩
    refine lc_list (K := K) (xs := ks.map V.int) (ColW b K (rowsUp ks) H D) (ColW.start hB hD ⟨[], rfl, fun r m => (by cases m), fun _ => .nil⟩) (fun i H' _ c => sq_of (c.fr.at hl hlb)) (fun i x H' hx c => ⟨rfl, ?_⟩) (fun H' c => ?_)
    · rw [List.getElem?_map] at hx
      obtain ⟨kk, hkk, rfl⟩ := Option.map_eq_some_iff.mp hx
      have hi : i < ks.length := (List.getElem?_eq_some_iff.mp hkk).1
      refine take_of (b := b) (m := 3) c.fr.bag (ea_cons (ev_var rfl) (ea_cons ev_c ea_nil)) (by decide) (by decide) fun r H1 f1 r0 r1 => ⟨r, 0, rfl, rfl, _, rfl, ite2 (fun e => ?_) (fun e => c.skip f1 fun _ h => h.skip)⟩
      refine ⟨.int kk, rfl, take_of (b := b) (m := 1000) f1.bag (ea_cons (ev_var rfl) (ea_cons ev_c ea_nil)) (by decide) (by decide) fun r2 H2 f2 r3 r4 => ⟨sz_of (by simp), fun p hp => ?_⟩⟩
      exact c.push ((f1.trans f2).trans (Fr.new f2.bag hp)) (dp_pair f2.bag (c.skip (f1.trans f2) fun _ h => h.skip).at hp) (fun _ h => h.push hkk ⟨r3, r4⟩) (by omega)
    · rw [List.length_map] at c
      obtain ⟨vs, ds, h1, h2, h3, rs, rfl, hr', hu⟩ := c.ex
      have rl : rs.length ≤ ks.length := by
        have := dps_len h2
        rw [List.length_map] at this
        omega
      exact ⟨D, vs, rfl, sq_of h1, fun t o ht od => q t rs _ (c.fr.trans (Fr.new c.fr.bag ht)) ⟨vs, ⟨o, upd_same, od⟩, dps_same (Ex.new ht) _ _ (dps_same (hid_same b _) _ _ (dps_same (hid_same D _) _ _ h2))⟩ (fun r m => List.mem_of_mem_take (hr' r m).1) (fun r m => (hr' r m).2) rl hu⟩
abbrev sLCh : Stmt := topS 61
theorem scLCh : FnScope ["bag", "keys", "most", "found", "turn", "key"] ["bag", "keys", "most"] (defScope sLCh) := ⟨rfl, rfl, rfl, by decide +kernel, rfl, by decide +kernel, by decide +kernel⟩
theorem ok_chs {f : Addr} {fd : FuncData} {kT kO kC k : Nat} (F : Fun K "_law_changes" "_law_changes" sLCh f fd) (N : Names mg) (dT : Own P w K mg base "_law_take" ["bag", "man1"] kT spTake) (hT : kT ≤ k) (dOf : Own P w K mg base "_law_of" ["bag", "some"] kO spOf) (hO : kO ≤ k) : FnOk P w K mg base CX0 (k + 1) f fd ["bag", "keys", "most"] (spChsL K) := by
  refine F.ok scLCh (fun vs H Q E h => ?_) (fun cdv A outer s H vs Q E hr h => ?_)
  · obtain ⟨b, l, ks, m, S, rfl, _⟩ := h
    rfl
  · obtain ⟨b, l, ks, m, S, rfl, hB, hS, hk, m1, m6, q⟩ := h
    refine ⟨_, (pss_cons (ps_set (i := 3) scLCh.nd rfl (.inl rfl) (pe_lst pa_nil))
      (pss_cons (ps_for PassesOwn.never rfl (pi_range1 rfl N.range (pa_cons (pe_op op_add pe_int (pe_own dT hr hT (by rfl) (pa_cons (pv 0) (pa_cons (pv 2) pa_nil)))) pa_nil)) (pg_name (i := 4) scLCh.nd rfl (.inl rfl)) (pss_cons (ps_set (i := 5) scLCh.nd rfl (.inl rfl) (pe_own dOf hr hO (by rfl) (pa_cons (pv 0) (pa_cons (pv 1) pa_nil))))
      (pss_one (ps_if (pt_cmpR op_eq (pe_own dT hr hT (by rfl) (pa_cons (pv 0) (pa_cons pe_int pa_nil))) pe_int (nomark _)) (pss_one (ps_expr (pe_bm PySem.F.plainAttrs_list PySem.F.slot_list_append PySem.F.type_list_append mt_append (pv 3) (pa_cons (pe_tup (pa_cons pe_str (pa_cons (pv 5) pa_nil))) pa_nil)))) (pss_one (ps_expr (pe_bm PySem.F.plainAttrs_list PySem.F.slot_list_append PySem.F.type_list_append mt_append (pv 3) (pa_cons (pe_tup (pa_cons pe_str (pa_cons (pv 5) (pa_cons (pe_ix ix_list (pe_lst (pa_cons (pe_own dT hr hT (by rfl) (pa_cons (pv 0) (pa_cons pe_int pa_nil))) (pa_cons (pe_own dT hr hT (by rfl) (pa_cons (pv 0) (pa_cons pe_int pa_nil))) pa_nil))) (pe_own dT hr hT (by rfl) (pa_cons (pv 0) (pa_cons pe_int pa_nil))) (fun _ _ => rfl)) pa_nil)))) pa_nil))))))))
      (pss_one (ps_ret (pe_callTy call_tuple_of (by rfl) N.tuple boot_tuple (pa_cons (pv 3) pa_nil)))))), ?_⟩
    refine s_seq ⟨Nat.zero_le _, fun D hD => g_name ?_⟩
    dsimp only
    have c0 : ColE S b K (goodCh ks) H D 0 (upd H D (.lst [])) := ColE.start hS hB hD
    refine s_seq (take_of (b := b) (m := m) c0.fr.bag (ea_cons (ev_var rfl) (ea_cons (ev_var rfl) ea_nil)) (by omega) (by omega) fun r H1 f1 r0 r1 => ⟨1, r, rfl, rfl, 1 + r, rfl, by omega, by omega, ?_⟩)
    refine for_range (lo := 0) (n := (1 + r).toNat) (fun i σ' H' => ∃ y4 y5, σ' = [some (.ref b), some (.ref l), some (.int m), some (.ref D), y4, y5] ∧ ColE S b K (goodCh ks) H D i H') ⟨none, none, rfl, c0.skip f1⟩ (fun i σ' H' hi p => ?_) (fun σ' H' p => ?_)
    · obtain ⟨y4, y5, rfl, c⟩ := p
      have i5 : i < 10000 := by omega
      refine g_name (s_seq ⟨.ref b, rfl, .ref l, rfl, b, l, ks, rfl, c.fr.bag, hk.fr c.fr, fun kk H2 mk f2 => g_name ?_⟩)
      dsimp only
      have hb := hk.bd kk mk
      refine take_of (b := b) (m := 3) f2.bag (ea_cons (ev_var rfl) (ea_cons ev_c ea_nil)) (by decide) (by decide) fun r2 H3 f3 r3 r4 => ⟨rfl, _, rfl, ite2 (fun e => ?_) (fun e => ?_)⟩
      · obtain ⟨vs, _, hDv, _⟩ := (c.skip (f2.trans f3)).ex
        refine ⟨.ref D, rfl, .inl ⟨rfl, vs, sq_of hDv⟩, .int kk, rfl, sz_of (by simp), fun p hp => ?_⟩
        obtain ⟨acc, h1, h2, h3⟩ := c.push ((f2.trans f3).trans (Fr.new f3.bag hp)) (dp_leaves (c.skip (f2.trans f3)).sokD hp fun H2 => .cons (.str "drop") (.cons (.int kk) .nil)) (gq_drop mk) i5
        exact ⟨D, acc, .ref p, rfl, rfl, h1, h2, _, _, rfl, h3⟩
      · obtain ⟨vs, _, hDv, _⟩ := (c.skip (f2.trans f3)).ex
        refine ⟨.ref D, rfl, .inl ⟨rfl, vs, sq_of hDv⟩, .int kk, rfl, take_of (b := b) (m := 1000) f3.bag (ea_cons (ev_var rfl) (ea_cons ev_c ea_nil)) (by decide) (by decide) fun w1 H4 f4 w2 w3 => take_of (b := b) (m := 3) f4.bag (ea_cons (ev_var rfl) (ea_cons ev_c ea_nil)) (by decide) (by decide) fun w4 H5 f5 w5 w6 => ⟨sz_of (by simp), fun L hL => ?_⟩⟩
        have fL := Fr.new (o := .lst [.int w1, .int w4]) f5.bag hL
        refine take_of (b := b) (m := 2) fL.bag (ea_cons (ev_var rfl) (ea_cons ev_c ea_nil)) (by decide) (by decide) fun w7 H6 f6 w8 w9 => ?_
        have hL6 : H6 L = some (.lst [.int w1, .int w4]) := f6.at upd_same (f5.bag.ne hL)
        have fA := (((f2.trans f3).trans (f4.trans f5)).trans fL).trans f6
        obtain ⟨n, rfl⟩ : ∃ n : Nat, w7 = (n : Int) := ⟨w7.toNat, by omega⟩
        obtain ⟨wv, hwv, hwb⟩ : ∃ wv : Int, [V.int w1, .int w4][n]? = some (.int wv) ∧ (0 ≤ wv ∧ wv < 1000) := by
          have : n = 0 ∨ n = 1 := by omega
          rcases this with rfl | rfl
          · exact ⟨w1, rfl, w2, w3⟩
          · exact ⟨w4, rfl, w5, by omega⟩
        refine ⟨L, _, n, .int wv, rfl, rfl, sq_of hL6, atI_nat hwv, sz_of (by simp), fun p hp => ?_⟩
        obtain ⟨acc, h1, h2, h3⟩ := c.push (fA.trans (Fr.new f6.bag hp)) (dp_leaves (c.skip fA).sokD hp fun H2 => .cons (.str "put") (.cons (.int kk) (.cons (.int wv) .nil))) (gq_put mk hwb) i5
        exact ⟨D, acc, .ref p, rfl, rfl, h1, h2, _, _, rfl, h3⟩
    · obtain ⟨y4, y5, rfl, c⟩ := p
      obtain ⟨vs, ds, h1, h2, h3, h4⟩ := c.ex
      dsimp only
      have hl := dps_len h2
      exact ⟨.ref D, rfl, D, vs, rfl, .inl ⟨sq_of h1, fun p hp => q (.ref p) ds _ (c.fr.trans (Fr.new c.fr.bag hp)) (cdt_new (hS.fr c.fr) c.fr.bag hp (dps_same also_same _ _ h2)) h4 (by omega)⟩⟩
end
end K13
namespace K13
open PySem L2 PyProof.Rows Tc Evl
def isCh : PyData → Bool
  | .tuple [s, k] => eqS "drop" s && isKey k
  | .tuple [s, k, z] => eqS "put" s && (isKey k && isKey z)
  | _ => false
def isGr : PyData → Bool
  | .tuple ds => (decide (1 ≤ (ds.length : Int)) && decide ((ds.length : Int) ≤ 6)) && ds.all isCh | _ => false
def atLeast (n : Int) : PyData → Bool
  | .int i => decide (n ≤ i) | _ => false
def isMark : PyData → Bool
  | .tuple [s, l, z] => inS ["low", "high"] s && (atLeast 1 l && atLeast 0 z) | _ => false
def isEn : PyData → Bool
  | .tuple [s, g] => eqS "group" s && isGr g | d => isMark d
def isLog : PyData → Bool
  | .list ds => decide ((ds.length : Int) ≤ 400) && ds.all isEn | _ => false
theorem lenI {n : Nat} {m : Int} : decide (V.int (n : Int) = V.int m) = decide ((n : Int) = m) := decide_eq_decide.mpr ⟨fun z => V.int.inj z, fun z => congrArg V.int z⟩
section
variable {P : Program} {w : World} {K : PySem.W.Frag} {mg : Str → Option Value} {base : Heap}
theorem not_tup {d : PyData} (h : isTup d = false) : isCh d = false ∧ isGr d = false ∧ isMark d = false ∧ isEn d = false := by
  cases d <;> first | exact ⟨rfl, rfl, rfl, rfl⟩ | cases h
theorem lst_dp {H : Hp} {v : V} {d : PyData} (h : Dp K H v d) (e : isLst d = true) : ∃ a xs ds, v = .ref a ∧ d = .list ds ∧ SqL K H a xs ∧ DpAll K H xs ds := by
  cases h with
  | lst h r => exact ⟨_, _, _, rfl, rfl, h, r⟩
  | _ => cases e
theorem dps2 {H : Hp} {xs : List V} {d0 d1 : PyData} (h : DpAll K H xs [d0, d1]) : ∃ x0 x1, xs = [x0, x1] ∧ Dp K H x0 d0 ∧ Dp K H x1 d1 := by
  cases h with
  | cons h0 r =>
    cases r with
    | cons h1 r =>
      cases r
      exact ⟨_, _, rfl, h0, h1⟩
theorem dps3 {H : Hp} {xs : List V} {d0 d1 d2 : PyData} (h : DpAll K H xs [d0, d1, d2]) : ∃ x0 x1 x2, xs = [x0, x1, x2] ∧ Dp K H x0 d0 ∧ Dp K H x1 d1 ∧ Dp K H x2 d2 := by
  cases h with
  | cons h0 r =>
    obtain ⟨x1, x2, rfl, h1, h2⟩ := dps2 r
    exact ⟨_, _, _, rfl, h0, h1, h2⟩
theorem ch_len {ds : List PyData} (h2 : ¬ (ds.length : Int) = 2) (h3 : ¬ (ds.length : Int) = 3) : isCh (.tuple ds) = false ∧ isMark (.tuple ds) = false := by
  match ds with
  | [] => exact ⟨rfl, rfl⟩
  | [_] => exact ⟨rfl, rfl⟩
  | [_, _] => exact absurd rfl h2
  | [_, _, _] => exact absurd rfl h3
  | _ :: _ :: _ :: _ :: _ => exact ⟨rfl, rfl⟩
abbrev sCh : Stmt := topS 39
theorem scCh : FnScope ["thing"] ["thing"] (defScope sCh) := ⟨rfl, rfl, rfl, by decide +kernel, rfl, by decide +kernel, by decide +kernel⟩
theorem ok_ch {f : Addr} {fd : FuncData} {k : Nat} (F : Fun K "is_change" "is_change" sCh f fd) (N : Names mg) (dK : Own P w K mg base "is_key" ["thing"] k (spTold K isKey)) (dW : Own P w K mg base "is_worth" ["thing"] k (spTold K isKey)) : FnOk P w K mg base CX0 (k + 1) f fd ["thing"] (spTold K isCh) := by
  refine F.ok scCh (fun vs H Q E h => ?_) (fun cdv A outer s H vs Q E hr h => ?_)
  · obtain ⟨v, d, rfl, _⟩ := h
    rfl
  · obtain ⟨v, d, rfl, hd, q⟩ := h
    refine ⟨_, (pss_cons (ps_if (pt_not (pt_val (pe_callB call_isi (by rfl) N.isinstance boot_isinstance (pa_cons (pv 0) (pa_cons (pe_bltn (v := .ty "tuple") (by rfl) N.tuple boot_tuple rfl) pa_nil))))) (pss_one (ps_ret pe_bl)) pss_nil)
      (pss_cons (ps_if (pt_cmpR op_eq (pe_callB call_len_seq (by rfl) N.len PySem.boot_len (pa_cons (pv 0) pa_nil)) pe_int (nomark _)) (pss_one (ps_ret (pe_and (pe_cmpR (op_eqStr hr.units) (pe_ix ix_tup (pv 0) pe_int (fun _ _ => rfl)) pe_str (nomark _)) (pe_one (pe_own dK hr (Nat.le_refl _) (by rfl) (pa_cons (pe_ix ix_tup (pv 0) pe_int (fun _ _ => rfl)) pa_nil)))))) pss_nil)
      (pss_one (ps_ret (pe_and (pe_cmpR op_eq (pe_callB call_len_seq (by rfl) N.len PySem.boot_len (pa_cons (pv 0) pa_nil)) pe_int (nomark _)) (pe_and (pe_cmpR (op_eqStr hr.units) (pe_ix ix_tup (pv 0) pe_int (fun _ _ => rfl)) pe_str (nomark _)) (pe_and (pe_own dK hr (Nat.le_refl _) (by rfl) (pa_cons (pe_ix ix_tup (pv 0) pe_int (fun _ _ => rfl)) pa_nil)) (pe_one (pe_own dW hr (Nat.le_refl _) (by rfl) (pa_cons (pe_ix ix_tup (pv 0) pe_int (fun _ _ => rfl)) pa_nil)))))))))), ?_⟩
    cases hT : isTup d with
    | false =>
      obtain ⟨n1, n2, n3, n4⟩ := not_tup hT
      rw [n1] at q
      refine s_seq (s_if (b := true) (et_is (et_not (et_B (ev_tuple (ev_var rfl) hd))) (by rw [hT]; rfl)) (fun _ H1 x1 => s_ret ev_c fun H2 x2 => q H2 (x1.trans x2)) fun e => by cases e)
    | true =>
      obtain ⟨a, xs, ds, rfl, rfl, hS, hA⟩ := tup_dp hd hT
      have hl := dps_len hA
      refine s_seq (s_if (b := false) (et_is (et_not (et_B (ev_tuple (ev_var rfl) hd))) rfl) (fun e => by cases e) fun _ H1 x1 => s_next (s_seq ?_))
      have hS1 := ex_t x1 hS
      refine s_if (et_is (et_test (ev_op (ev_lenT (ev_var rfl) hS1) ev_c (rv_eq rfl))) (lenI.trans (by rw [hl]))) (fun e H2 x2 => ?_) fun e H2 x2 => s_next ?_
      · have e2 : ds.length = 2 := by have := of_decide_eq_true e; omega
        obtain ⟨d0, d1, rfl⟩ := two_of e2
        obtain ⟨v0, v1, rfl, h0, h1⟩ := dps2 hA
        have hS2 := ex_t x2 hS1
        have x12 := x1.trans x2
        exact s_ret (ev_andV (ev_eqStr (ev_ix0 (ev_var rfl) hS2) (dp_same x12 _ _ h0) ev_c) fun _ => ev_told (ev_ix1 (ev_var rfl) hS2) (dp_same x12 _ _ h1)) fun H3 x3 => q H3 (x12.trans x3)
      · have e2 := of_decide_eq_false e
        have x12 := x1.trans x2
        have hS2 := ex_t x2 hS1
        by_cases e3 : (ds.length : Int) = 3
        · obtain ⟨d0, d1, d2, rfl⟩ := three_of (show ds.length = 3 by omega)
          obtain ⟨v0, v1, v2, rfl, h0, h1, h2⟩ := dps3 hA
          exact s_ret (ev_andV (a := true) (ev_is (ev_op (ev_lenT (ev_var rfl) hS2) ev_c (rv_eq rfl)) rfl) fun _ => ev_andV (ev_eqStr (ev_ix0 (ev_var rfl) hS2) (dp_same x12 _ _ h0) ev_c) fun _ => ev_andV (ev_told (ev_ix1 (ev_var rfl) hS2) (dp_same x12 _ _ h1)) fun _ => ev_told (ev_ix2 (ev_var rfl) hS2) (dp_same x12 _ _ h2)) fun H3 x3 => q H3 (x12.trans x3)
        · rw [(ch_len e2 e3).1] at q
          refine s_ret (ev_andV (a := false) (b := false) (ev_is (ev_op (ev_lenT (ev_var rfl) hS2) ev_c (rv_eq rfl)) (congrArg V.bl (lenI.trans (by rw [hl]; exact decide_eq_false e3)))) fun e => by cases e) fun H3 x3 => q H3 (x12.trans x3)
theorem dps_getD {H : Hp} {xs : List V} {ds : List PyData} {i : Nat} {x : V} (hA : DpAll K H xs ds) (e : xs[i]? = some x) : Dp K H x (ds.getD i .none) := by
  obtain ⟨dx, h1, h2⟩ := dps_at hA e
  rw [List.getD_eq_getElem?_getD, h1]
  exact h2
theorem map_getD {xs : List V} {ds : List PyData} (hl : xs.length = ds.length) (f : PyData → Bool) : given xs.length (fun _ => true) (fun i => V.bl (f (ds.getD i .none))) = (ds.map f).map V.bl := by
  rw [given_all, hl]
  apply List.ext_getElem
  · simp
  · intro i h1 h2
    simp only [List.length_map] at h2
    simp [List.getD_eq_getElem?_getD, List.getElem?_eq_getElem h2]
abbrev sGr : Stmt := topS 40
theorem scGr : FnScope ["thing", "change"] ["thing"] (defScope sGr) := ⟨rfl, rfl, rfl, by decide +kernel, rfl, by decide +kernel, by decide +kernel⟩
theorem ok_gr {f : Addr} {fd : FuncData} {k : Nat} (F : Fun K "is_group" "is_group" sGr f fd) (N : Names mg) (dC : Own P w K mg base "is_change" ["thing"] k (spTold K isCh)) : FnOk P w K mg base CX0 (k + 1) f fd ["thing"] (spTold K isGr) := by
  refine F.ok scGr (fun vs H Q E h => ?_) (fun cdv A outer s H vs Q E hr h => ?_)
  · obtain ⟨v, d, rfl, _⟩ := h
    rfl
  · obtain ⟨v, d, rfl, hd, q⟩ := h
    obtain ⟨tk, hK⟩ := N.MOST_CHANGES
    refine ⟨_, (pss_cons (ps_if (PW.pt (pw_or (pt_not (pt_val (pe_callB call_isi (by rfl) N.isinstance boot_isinstance (pa_cons (pv 0) (pa_cons (pe_bltn (v := .ty "tuple") (by rfl) N.tuple boot_tuple rfl) pa_nil))))) (pw_or1 (pt_not (pt_chain op_le op_le pe_int (pe_callB call_len_seq (by rfl) N.len PySem.boot_len (pa_cons (pv 0) pa_nil)) (pe_glob (v := .int 6) (by rfl) hK ⟨_, rfl⟩)))))) (pss_one (ps_ret pe_bl)) pss_nil)
      (pss_one (ps_ret (pe_callB (cr_all rfl) (by rfl) N.all boot_all (pa_cons (pe_lc (own := [("change", 1)]) (g := gName 1) rfl scGr.nd (pi_tup (pv 0)) (blkOk_by (N := ["thing", "change"]) (sc := defScope sGr) (by decide +kernel)) (fun _ _ _ _ _ => pg_name (i := 1) scGr.nd rfl (Or.inl rfl)) (fun _ _ _ _ _ => pts_nil) (fun _ _ _ _ _ => (pe_own dC hr (Nat.le_refl _) (by rfl) (pa_cons (pv 1) pa_nil)))) pa_nil))))), ?_⟩
    cases hT : isTup d with
    | false =>
      obtain ⟨n1, n2, n3, n4⟩ := not_tup hT
      rw [n2] at q
      refine s_seq (s_if (b := true) (et_is (et_or (a := true) (b := true) (et_is (et_not (et_B (ev_tuple (ev_var rfl) hd))) (by rw [hT]; rfl)) fun e => by cases e) rfl) (fun _ H1 x1 => s_ret ev_c fun H2 x2 => q H2 (x1.trans x2)) fun e => by cases e)
    | true =>
      obtain ⟨a, xs, ds, rfl, rfl, hS, hA⟩ := tup_dp hd hT
      have hl := dps_len hA
      refine s_seq (s_if (b := !(decide (1 ≤ (ds.length : Int)) && decide ((ds.length : Int) ≤ 6))) (et_is (et_or (a := false) (et_is (et_not (et_B (ev_tuple (ev_var rfl) hd))) rfl) fun _ => et_not (et_test (ev_chain (p := fun i j => decide (i ≤ j)) (p' := fun i j => decide (i ≤ j)) ev_c (ev_lenT (ev_var rfl) hS) ev_c))) (by rw [hl]; rfl)) (fun e H1 x1 => s_ret ev_c fun H2 x2 => ?_) fun e H1 x1 => s_next ?_)
      · have e2 : isGr (.tuple ds) = false := by
          show ((decide (1 ≤ (ds.length : Int)) && decide ((ds.length : Int) ≤ 6)) && ds.all isCh) = false
          cases h : (decide (1 ≤ (ds.length : Int)) && decide ((ds.length : Int) ≤ 6)) with
          | false => rfl
          | true =>
            rw [h] at e
            cases e
        rw [e2] at q
        exact q H2 (x1.trans x2)
      · have h6 : (decide (1 ≤ (ds.length : Int)) && decide ((ds.length : Int) ≤ 6)) = true := by
          cases h : (decide (1 ≤ (ds.length : Int)) && decide ((ds.length : Int) ≤ 6)) with
          | true => rfl
          | false =>
            rw [h] at e
            cases e
        have h7 : ds.length ≤ 6 := by
          rw [Bool.and_eq_true, decide_eq_true_eq, decide_eq_true_eq] at h6
          omega
        have e2 : isGr (.tuple ds) = ds.all isCh := by
          show ((decide (1 ≤ (ds.length : Int)) && decide ((ds.length : Int) ≤ 6)) && ds.all isCh) = _
          rw [h6]
          rfl
        rw [e2] at q
        exact s_ret (ev_is (ev_all (bs := ds.map isCh) (el_is (el_lcT (K := K) (fun _ => true) (fun i => V.bl (isCh (ds.getD i .none))) (ev_var rfl) (ex_t x1 hS) (by omega) (fun x => rfl) (fun i x H1 e hx => et_yes) fun i x H2 e hx _ => ev_told (ev_var rfl) (dp_same (x1.trans e) _ _ (dps_getD hA hx))) (map_getD hl isCh))) (by rw [List.all_map]; rfl)) fun H2 x2 => q H2 (x1.trans x2)
theorem str_dp {H : Hp} {v : V} {d : PyData} (h : Dp K H v d) (e : isStr d = true) : ∃ z, v = .str z ∧ d = .str z := by
  cases h with
  | str z => exact ⟨z, rfl, rfl⟩
  | _ => cases e
theorem eqS_no {d : PyData} {s : Str} (h : isStr d = false) : eqS s d = false := by cases d <;> first | rfl | cases h
theorem inS_no {d : PyData} {s : List Str} (h : isStr d = false) : inS s d = false := by cases d <;> first | rfl | cases h
theorem strI {z s : Str} : decide (V.str z = V.str s) = decide (z = s) := decide_eq_decide.mpr ⟨fun e => V.str.inj e, fun e => congrArg V.str e⟩
abbrev sIsCh : Stmt := topS 62
theorem scIsCh : FnScope ["thing"] ["thing"] (defScope sIsCh) := ⟨rfl, rfl, rfl, by decide +kernel, rfl, by decide +kernel, by decide +kernel⟩
theorem ok_isch {f : Addr} {fd : FuncData} {k : Nat} (F : Fun K "_law_is_change" "_law_is_change" sIsCh f fd) (N : Names mg) (dW : Own P w K mg base "_law_within" ["thing", "least", "most"] k (spWithin K)) : FnOk P w K mg base CX0 (k + 1) f fd ["thing"] (spTold K isCh) := by
  refine F.ok scIsCh (fun vs H Q E h => ?_) (fun cdv A outer s H vs Q E hr h => ?_)
  · obtain ⟨v, d, rfl, _⟩ := h
    rfl
  · obtain ⟨v, d, rfl, hd, q⟩ := h
    refine ⟨_, (pss_cons (ps_if (PW.pt (pw_or (pt_not (pt_val (pe_callB call_isi (by rfl) N.isinstance boot_isinstance (pa_cons (pv 0) (pa_cons (pe_bltn (v := .ty "tuple") (by rfl) N.tuple boot_tuple rfl) pa_nil))))) (pw_or (pt_not (pt_chain op_le op_le pe_int (pe_callB call_len_seq (by rfl) N.len PySem.boot_len (pa_cons (pv 0) pa_nil)) pe_int)) (pw_or1 (pt_not (pt_val (pe_callB call_isi (by rfl) N.isinstance boot_isinstance (pa_cons (pe_ix ix_tup (pv 0) pe_int (fun _ _ => rfl)) (pa_cons (pe_bltn (v := .ty "str") (by rfl) N.str boot_str rfl) pa_nil))))))))) (pss_one (ps_ret pe_bl)) pss_nil)
      (pss_cons (ps_if (PW.pt (pw_or (pt_cmpR op_ne (pe_ix ix_tup (pv 0) pe_int (fun _ _ => rfl)) (pe_dget (hu_of hr) (pe_disp (pps_cons pe_int pe_str (pps_cons pe_int pe_str pps_nil)) rfl rfl (by decide) (by decide)) (pe_callB call_len_seq (by rfl) N.len PySem.boot_len (pa_cons (pv 0) pa_nil)) (fun _ _ => rfl)) (nomark _)) (pw_or1 (pt_not (pt_val (pe_own dW hr (Nat.le_refl _) (by rfl) (pa_cons (pe_ix ix_tup (pv 0) pe_int (fun _ _ => rfl)) (pa_cons pe_int (pa_cons pe_int pa_nil))))))))) (pss_one (ps_ret pe_bl)) pss_nil)
      (pss_one (ps_ret (pe_or (pe_cmpR op_eq (pe_callB call_len_seq (by rfl) N.len PySem.boot_len (pa_cons (pv 0) pa_nil)) pe_int (nomark _)) (pe_one (pe_own dW hr (Nat.le_refl _) (by rfl) (pa_cons (pe_ix ix_tup (pv 0) pe_int (fun _ _ => rfl)) (pa_cons pe_int (pa_cons pe_int pa_nil)))))))))), ?_⟩
    cases hT : isTup d with
    | false =>
      obtain ⟨n1, n2, n3, n4⟩ := not_tup hT
      rw [n1] at q
      refine s_seq (s_if (b := true) (et_is (et_or (a := true) (b := true) (et_is (et_not (et_B (ev_tuple (ev_var rfl) hd))) (by rw [hT]; rfl)) fun e => by cases e) rfl) (fun _ H1 x1 => s_ret ev_c fun H2 x2 => q H2 (x1.trans x2)) fun e => by cases e)
    | true =>
      obtain ⟨a, xs, ds, rfl, rfl, hS, hA⟩ := tup_dp hd hT
      have hl := dps_len hA
      by_cases h23 : (2 : Int) ≤ (ds.length : Int) ∧ (ds.length : Int) ≤ 3
      case neg =>
        have hc : (decide ((2 : Int) ≤ (ds.length : Int)) && decide ((ds.length : Int) ≤ 3)) = false := by
          rw [Bool.and_eq_false_iff, decide_eq_false_iff_not, decide_eq_false_iff_not]
          omega
        have e0 : isCh (.tuple ds) = false := by
          match ds, h23 with
          | [], _ => rfl
          | [_], _ => rfl
          | [_, _], h => exact absurd ⟨by simp, by simp⟩ h
          | [_, _, _], h => exact absurd ⟨by simp, by simp⟩ h
          | _ :: _ :: _ :: _ :: _, _ => rfl
        rw [e0] at q
        refine s_seq (s_if (b := true) (et_is (et_or (a := false) (b := true) (et_is (et_not (et_B (ev_tuple (ev_var rfl) hd))) rfl) fun _ => et_is (et_or (a := true) (b := true) (et_is (et_not (et_test (ev_chain (p := fun i j => decide (i ≤ j)) (p' := fun i j => decide (i ≤ j)) ev_c (ev_lenT (ev_var rfl) hS) ev_c))) (by rw [hl, hc]; rfl)) fun e => by cases e) rfl) rfl) (fun _ H1 x1 => s_ret ev_c fun H2 x2 => q H2 (x1.trans x2)) fun e => by cases e)
      have hc : (decide ((2 : Int) ≤ (xs.length : Int)) && decide ((xs.length : Int) ≤ 3)) = true := by
        rw [Bool.and_eq_true, decide_eq_true_eq, decide_eq_true_eq]
        omega
      by_cases h2 : (ds.length : Int) = 2
      · obtain ⟨d0, d1, rfl⟩ := two_of (show ds.length = 2 by omega)
        obtain ⟨v0, v1, rfl, h0, h1⟩ := dps2 hA
        by_cases hz : isStr d0 = true
        case neg =>
          have hz' : isStr d0 = false := by cases h : isStr d0 <;> first | rfl | exact absurd h hz
          have e0 : isCh (.tuple [d0, d1]) = false := by
            show (_ && _) = false
            first | rw [eqS_no hz'] | rw [inS_no hz']
            rfl
          rw [e0] at q
          refine s_seq (s_if (b := true) (et_is (et_or (a := false) (b := true) (et_is (et_not (et_B (ev_tuple (ev_var rfl) hd))) rfl) fun _ => et_is (et_or (a := false) (b := true) (et_is (et_not (et_test (ev_chain (p := fun i j => decide (i ≤ j)) (p' := fun i j => decide (i ≤ j)) ev_c (ev_lenT (ev_var rfl) hS) ev_c))) (by rw [hc]; rfl)) fun _ => et_is (et_not (et_B (ev_str (ev_ix0 (ev_var rfl) hS) h0))) (by rw [hz']; rfl)) rfl) rfl) (fun _ H1 x1 => s_ret ev_c fun H2 x2 => q H2 (x1.trans x2)) fun e => by cases e)
        obtain ⟨z0, rfl, rfl⟩ := str_dp h0 hz
        refine s_seq (s_if (b := false) (et_is (et_or (a := false) (b := false) (et_is (et_not (et_B (ev_tuple (ev_var rfl) hd))) rfl) fun _ => et_is (et_or (a := false) (b := false) (et_is (et_not (et_test (ev_chain (p := fun i j => decide (i ≤ j)) (p' := fun i j => decide (i ≤ j)) ev_c (ev_lenT (ev_var rfl) hS) ev_c))) (by rw [hc]; rfl)) fun _ => et_is (et_not (et_B (ev_str (ev_ix0 (ev_var rfl) hS) h0))) rfl) rfl) rfl) (fun e => by cases e) fun _ H1 x1 => s_next ?_)
        have hS1 := ex_t x1 hS
        have h1' := dp_same x1 _ _ h1
        refine s_seq (s_if (b := !decide (z0 = "drop") || !within 0 999 d1) (et_is (et_or (et_test (ev_op (ev_ix0 (ev_var rfl) hS1) (ev_dict2 (z := .str "drop") (ev_lenT (ev_var rfl) hS1) rfl) (rv_ne rfl))) fun _ => et_not (et_B (ev_within (ev_ix1 (ev_var rfl) hS1) ev_c ev_c h1'))) (by rw [strI])) (fun e H2 x2 => s_ret ev_c fun H3 x3 => ?_) fun e H2 x2 => s_next ?_)
        · have e0 : isCh (.tuple [.str z0, d1]) = false := by
            show (decide (z0 = "drop") && isKey d1) = false
            rw [← within_key]
            cases h5 : decide (z0 = "drop") <;> cases h6 : within 0 999 d1 <;> first | rfl | (rw [h5, h6] at e; cases e)
          rw [e0] at q
          exact q H3 ((x1.trans x2).trans x3)
        · have e0 : isCh (.tuple [.str z0, d1]) = true := by
            show (decide (z0 = "drop") && isKey d1) = true
            rw [← within_key]
            cases h5 : decide (z0 = "drop") <;> cases h6 : within 0 999 d1 <;> first | rfl | (rw [h5, h6] at e; cases e)
          rw [e0] at q
          exact s_ret (ev_orV (a := true) (b := true) (ev_is (ev_op (ev_lenT (ev_var rfl) (ex_t x2 hS1)) ev_c (rv_eq rfl)) rfl) fun e => by cases e) fun H3 x3 => q H3 ((x1.trans x2).trans x3)
      · obtain ⟨d0, d1, d2, rfl⟩ := three_of (show ds.length = 3 by omega)
        obtain ⟨v0, v1, v2, rfl, h0, h1, h3⟩ := dps3 hA
        by_cases hz : isStr d0 = true
        case neg =>
          have hz' : isStr d0 = false := by cases h : isStr d0 <;> first | rfl | exact absurd h hz
          have e0 : isCh (.tuple [d0, d1, d2]) = false := by
            show (_ && _) = false
            first | rw [eqS_no hz'] | rw [inS_no hz']
            rfl
          rw [e0] at q
          refine s_seq (s_if (b := true) (et_is (et_or (a := false) (b := true) (et_is (et_not (et_B (ev_tuple (ev_var rfl) hd))) rfl) fun _ => et_is (et_or (a := false) (b := true) (et_is (et_not (et_test (ev_chain (p := fun i j => decide (i ≤ j)) (p' := fun i j => decide (i ≤ j)) ev_c (ev_lenT (ev_var rfl) hS) ev_c))) (by rw [hc]; rfl)) fun _ => et_is (et_not (et_B (ev_str (ev_ix0 (ev_var rfl) hS) h0))) (by rw [hz']; rfl)) rfl) rfl) (fun _ H1 x1 => s_ret ev_c fun H2 x2 => q H2 (x1.trans x2)) fun e => by cases e)
        obtain ⟨z0, rfl, rfl⟩ := str_dp h0 hz
        refine s_seq (s_if (b := false) (et_is (et_or (a := false) (b := false) (et_is (et_not (et_B (ev_tuple (ev_var rfl) hd))) rfl) fun _ => et_is (et_or (a := false) (b := false) (et_is (et_not (et_test (ev_chain (p := fun i j => decide (i ≤ j)) (p' := fun i j => decide (i ≤ j)) ev_c (ev_lenT (ev_var rfl) hS) ev_c))) (by rw [hc]; rfl)) fun _ => et_is (et_not (et_B (ev_str (ev_ix0 (ev_var rfl) hS) h0))) rfl) rfl) rfl) (fun e => by cases e) fun _ H1 x1 => s_next ?_)
        have hS1 := ex_t x1 hS
        have h1' := dp_same x1 _ _ h1
        refine s_seq (s_if (b := !decide (z0 = "put") || !within 0 999 d1) (et_is (et_or (et_test (ev_op (ev_ix0 (ev_var rfl) hS1) (ev_dict2 (z := .str "put") (ev_lenT (ev_var rfl) hS1) rfl) (rv_ne rfl))) fun _ => et_not (et_B (ev_within (ev_ix1 (ev_var rfl) hS1) ev_c ev_c h1'))) (by rw [strI])) (fun e H2 x2 => s_ret ev_c fun H3 x3 => ?_) fun e H2 x2 => s_next ?_)
        · have e0 : isCh (.tuple [.str z0, d1, d2]) = false := by
            show (decide (z0 = "put") && (isKey d1 && isKey d2)) = false
            rw [← within_key d1]
            cases h5 : decide (z0 = "put") <;> cases h6 : within 0 999 d1 <;> first | rfl | (rw [h5, h6] at e; cases e)
          rw [e0] at q
          exact q H3 ((x1.trans x2).trans x3)
        · have e0 : isCh (.tuple [.str z0, d1, d2]) = within 0 999 d2 := by
            show (decide (z0 = "put") && (isKey d1 && isKey d2)) = _
            rw [← within_key d1, ← within_key d2]
            cases h5 : decide (z0 = "put") <;> cases h6 : within 0 999 d1 <;> first | rfl | (rw [h5, h6] at e; cases e)
          rw [e0] at q
          exact s_ret (ev_is (ev_orV (a := false) (ev_is (ev_op (ev_lenT (ev_var rfl) (ex_t x2 hS1)) ev_c (rv_eq rfl)) rfl) fun _ => ev_within (ev_ix2 (ev_var rfl) (ex_t x2 hS1)) ev_c ev_c (dp_same (x1.trans x2) _ _ h3)) rfl) fun H3 x3 => q H3 ((x1.trans x2).trans x3)
abbrev sAreCh : Stmt := topS 63
theorem scAreCh : FnScope ["thing", "change"] ["thing"] (defScope sAreCh) := ⟨rfl, rfl, rfl, by decide +kernel, rfl, by decide +kernel, by decide +kernel⟩
theorem ok_arech {f : Addr} {fd : FuncData} {k : Nat} (F : Fun K "_law_are_changes" "_law_are_changes" sAreCh f fd) (N : Names mg) (dC : Own P w K mg base "_law_is_change" ["thing"] k (spTold K isCh)) : FnOk P w K mg base CX0 (k + 1) f fd ["thing"] (spTold K isGr) := by
  refine F.ok scAreCh (fun vs H Q E h => ?_) (fun cdv A outer s H vs Q E hr h => ?_)
  · obtain ⟨v, d, rfl, _⟩ := h
    rfl
  · obtain ⟨v, d, rfl, hd, q⟩ := h
    refine ⟨_, (pss_cons (ps_if (PW.pt (pw_or (pt_not (pt_val (pe_callB call_isi (by rfl) N.isinstance boot_isinstance (pa_cons (pv 0) (pa_cons (pe_bltn (v := .ty "tuple") (by rfl) N.tuple boot_tuple rfl) pa_nil))))) (pw_or1 (pt_not (pt_chain op_le op_le pe_int (pe_callB call_len_seq (by rfl) N.len PySem.boot_len (pa_cons (pv 0) pa_nil)) pe_int))))) (pss_one (ps_ret pe_bl)) pss_nil)
      (pss_one (ps_ret (pe_cmpR (op_eqE hr.units) (pe_lc (own := [("change", 1)]) (g := gName 1) rfl scAreCh.nd (pi_tup (pv 0)) (blkOk_by (N := ["thing", "change"]) (sc := defScope sAreCh) (by decide +kernel)) (fun _ _ _ _ _ => pg_name (i := 1) scAreCh.nd rfl (Or.inl rfl)) (fun _ _ _ _ _ => (pts_one (pt_not (pt_val (pe_own dC hr (Nat.le_refl _) (by rfl) (pa_cons (pv 1) pa_nil)))))) (fun _ _ _ _ _ => (pv 1))) (pe_lst pa_nil) (nomark _))))), ?_⟩
    cases hT : isTup d with
    | false =>
      obtain ⟨n1, n2, n3, n4⟩ := not_tup hT
      rw [n2] at q
      refine s_seq (s_if (b := true) (et_is (et_or (a := true) (b := true) (et_is (et_not (et_B (ev_tuple (ev_var rfl) hd))) (by rw [hT]; rfl)) fun e => by cases e) rfl) (fun _ H1 x1 => s_ret ev_c fun H2 x2 => q H2 (x1.trans x2)) fun e => by cases e)
    | true =>
      obtain ⟨a, xs, ds, rfl, rfl, hS, hA⟩ := tup_dp hd hT
      have hl := dps_len hA
      refine s_seq (s_if (b := !(decide (1 ≤ (ds.length : Int)) && decide ((ds.length : Int) ≤ 6))) (et_is (et_or (a := false) (et_is (et_not (et_B (ev_tuple (ev_var rfl) hd))) rfl) fun _ => et_not (et_test (ev_chain (p := fun i j => decide (i ≤ j)) (p' := fun i j => decide (i ≤ j)) ev_c (ev_lenT (ev_var rfl) hS) ev_c))) (by rw [hl]; rfl)) (fun e H1 x1 => s_ret ev_c fun H2 x2 => ?_) fun e H1 x1 => s_next ?_)
      · have e2 : isGr (.tuple ds) = false := by
          show ((decide (1 ≤ (ds.length : Int)) && decide ((ds.length : Int) ≤ 6)) && ds.all isCh) = false
          cases h : (decide (1 ≤ (ds.length : Int)) && decide ((ds.length : Int) ≤ 6)) with
          | false => rfl
          | true =>
            rw [h] at e
            cases e
        rw [e2] at q
        exact q H2 (x1.trans x2)
      · have h6 : (decide (1 ≤ (ds.length : Int)) && decide ((ds.length : Int) ≤ 6)) = true := by
          cases h : (decide (1 ≤ (ds.length : Int)) && decide ((ds.length : Int) ≤ 6)) with
          | true => rfl
          | false =>
            rw [h] at e
            cases e
        have h7 : ds.length ≤ 6 := by
          rw [Bool.and_eq_true, decide_eq_true_eq, decide_eq_true_eq] at h6
          omega
        have e2 : isGr (.tuple ds) = ds.all isCh := by
          show ((decide (1 ≤ (ds.length : Int)) && decide ((ds.length : Int) ≤ 6)) && ds.all isCh) = _
          rw [h6]
          rfl
        rw [e2] at q
        exact s_ret (ev_is (ev_eqE (K := K) (el_lcT (K := K) (fun i => !isCh (ds.getD i .none)) (fun i => xs.getD i .non) (ev_var rfl) (ex_t x1 hS) (by omega) (fun x => rfl) (fun i x H2 e hx => et_not (et_B (ev_told (ev_var rfl) (dp_same (x1.trans e) _ _ (dps_getD hA hx))))) fun i x H2 e hx _ => ev_is (ev_var rfl) (by rw [List.getD_eq_getElem?_getD, hx]; rfl))) (congrArg V.bl (given_emptyB isCh _ hl))) fun H2 x2 => q H2 (x1.trans x2)
end
end K13
namespace K13
open PySem L2 PyProof.Rows Tc Evl
abbrev sRi : Stmt := topS 43
abbrev sHouse : Stmt := topS 50
abbrev mInit : Stmt := inClass sHouse 0
abbrev mLife : Stmt := inClass sHouse 3
abbrev mTable : Stmt := inClass sHouse 11
abbrev mPlaces : Stmt := inClass sHouse 12
abbrev mEntries : Stmt := inClass sHouse 13
abbrev mHolds : Stmt := inClass sHouse 14
abbrev mReadings : Stmt := inClass sHouse 15
theorem smInit : FnScope ["self", "table", "key", "worth"] ["self", "table"] (defScope mInit) := ⟨rfl, rfl, rfl, by decide +kernel, rfl, by decide +kernel, by decide +kernel⟩
theorem smLife : FnScope ["self"] ["self"] (defScope mLife) := ⟨rfl, rfl, rfl, by decide +kernel, rfl, by decide +kernel, by decide +kernel⟩
theorem smTable : FnScope ["self"] ["self"] (defScope mTable) := ⟨rfl, rfl, rfl, by decide +kernel, rfl, by decide +kernel, by decide +kernel⟩
theorem smPlaces : FnScope ["self"] ["self"] (defScope mPlaces) := ⟨rfl, rfl, rfl, by decide +kernel, rfl, by decide +kernel, by decide +kernel⟩
theorem smEntries : FnScope ["self", "place", "many", "first", "last"] ["self", "place", "many"] (defScope mEntries) := ⟨rfl, rfl, rfl, by decide +kernel, rfl, by decide +kernel, by decide +kernel⟩
theorem smHolds : FnScope ["self", "life"] ["self"] (defScope mHolds) := ⟨rfl, rfl, rfl, by decide +kernel, rfl, by decide +kernel, by decide +kernel⟩
theorem smReadings : FnScope ["self", "told", "number", "reading"] ["self"] (defScope mReadings) := ⟨rfl, rfl, rfl, by decide +kernel, rfl, by decide +kernel, by decide +kernel⟩
theorem scRi : FnScope ["rows", "key"] ["rows"] (defScope sRi) := ⟨rfl, rfl, rfl, by decide +kernel, rfl, by decide +kernel, by decide +kernel⟩
/-- the rows of a dict, by keys -/
def spRising (K : PySem.W.Frag) : Sp := fun vs H Q _ => ∃ (D : Addr) (ks : List Int) (kvs : List (Key × V)) (f : Int → Option Int), vs = [.ref D] ∧ H D = some (.dK kvs) ∧ DI ks kvs f ∧ ks.length ≤ 1000 ∧
  ∀ p js H', H p = none → Ex H H' → KeysOf f js → (∀ j ∈ js, j ∈ ks) → TP K H' p (rowsOf f js) → Q (.ref p) H'
theorem fRows_in {rws : List (Int × Int)} {k : Int} (h : (fRows rws k).isSome = true) : ∃ r ∈ rws, r.1 = k := by
  have g : ∀ (cs : List (Int × Option Int)) (f : Int → Option Int), (appl f cs k).isSome = true → (f k).isSome = true ∨ ∃ c ∈ cs, c.1 = k := by
    intro cs
    induction cs with
    | nil => exact fun f z => .inl z
    | cons c cs ih =>
      intro f z
      rcases ih _ z with z | ⟨c', m, e⟩
      · unfold fset at z
        by_cases e : k = c.1
        · exact .inr ⟨c, List.mem_cons_self, e.symm⟩
        · dsimp only at z
          rw [if_neg e] at z
          exact .inl z
      · exact .inr ⟨c', List.mem_cons_of_mem _ m, e⟩
  rcases g _ _ h with z | ⟨c, m, e⟩
  · cases z
  · obtain ⟨r, hr, rfl⟩ := List.mem_map.mp m
    exact ⟨r, hr, e⟩
theorem fRows_out {rws : List (Int × Int)} {k : Int} (h : ∀ r ∈ rws, r.1 ≠ k) : fRows rws k = none := by
  cases e : fRows rws k with
  | none => rfl
  | some z =>
    obtain ⟨r, hr, er⟩ := fRows_in (rws := rws) (k := k) (by rw [e]; rfl)
    exact absurd er (h r hr)
theorem fRows_cons (r : Int × Int) (rws : List (Int × Int)) (k : Int) (hk : k ≠ r.1) : fRows (r :: rws) k = fRows rws k := by
  unfold fRows
  rw [List.map_cons]
  show appl (fset (fun _ => none) r.1 (some r.2)) _ k = _
  exact appl_in _ _ _ _ (.inr (if_neg hk))
theorem fRows_head {r : Int × Int} {rws : List (Int × Int)} (h : ∀ s ∈ rws, s.1 ≠ r.1) : fRows (r :: rws) r.1 = some r.2 := by
  unfold fRows
  rw [List.map_cons]
  show appl (fset (fun _ => none) r.1 (some r.2)) _ r.1 = _
  rw [appl_out _ _ _ fun c m => by
    obtain ⟨s, hs, rfl⟩ := List.mem_map.mp m
    exact h s hs]
  exact if_pos rfl
theorem appl_at {rs : List (Int × Int)} {g : Int → Option Int} {k : Int} (h : ∀ z, (k, z) ∉ rs) : appl g (rs.map fun r => (r.1, some r.2)) k = g k := by
  induction rs generalizing g with
  | nil => rfl
  | cons r rs ih =>
    show appl (fset g r.1 (some r.2)) (rs.map fun r => (r.1, some r.2)) k = _
    rw [ih fun z m => h z (List.mem_cons_of_mem _ m)]
    unfold fset
    rw [if_neg fun e => h r.2 (by rw [e]; exact List.mem_cons_self)]
theorem applR_in {rs : List (Int × Int)} {g : Int → Option Int} {k z : Int} (up : rs.Pairwise fun x y => x.1 < y.1) (h : (k, z) ∈ rs) : appl g (rs.map fun r => (r.1, some r.2)) k = some z := by
  induction rs generalizing g with
  | nil => cases h
  | cons r rs ih =>
    obtain ⟨p1, p2⟩ := List.pairwise_cons.mp up
    show appl (fset g r.1 (some r.2)) (rs.map fun r => (r.1, some r.2)) k = _
    rcases List.mem_cons.mp h with e | mr
    · subst e
      rw [appl_at fun z' m' => by
        have := p1 _ m'
        simp at this]
      unfold fset
      rw [if_pos rfl]
    · exact ih p2 mr
theorem fRows_mem {rs : List (Int × Int)} {k z : Int} (up : rs.Pairwise fun x y => x.1 < y.1) : fRows rs k = some z ↔ (k, z) ∈ rs := by
  constructor
  · intro h
    obtain ⟨r, m, e⟩ := fRows_in (rws := rs) (k := k) (by rw [h]; rfl)
    have := applR_in (g := fun _ => none) up (show (k, r.2) ∈ rs by rw [← e]; exact m)
    unfold fRows at h
    rw [h] at this
    rw [Option.some.inj this, ← e]
    exact m
  · exact fun m => applR_in up m
/-- all keys -/
def allK : List Int := (List.range 1000).map fun (i : Nat) => (i : Int)
theorem allK_len : allK.length = 1000 := by unfold allK; rw [List.length_map, List.length_range]
theorem allK_mem {k : Int} (h0 : 0 ≤ k) (h1 : k < 1000) : k ∈ allK := List.mem_map.mpr ⟨k.toNat, List.mem_range.mpr (by omega), by omega⟩
/-- rows of a table -/
structure RsOk (rs : List (Int × Int)) : Prop where
  up : rs.Pairwise fun x y => x.1 < y.1
  inn : ∀ r ∈ rs, 0 ≤ r.1 ∧ r.1 < 1000 ∧ 0 ≤ r.2 ∧ r.2 < 1000
  few : rs.length ≤ 100
theorem rows_of : ∀ (ds : List PyData) (l : Int), rising l ds = true → ∃ rs : List (Int × Int), ds = rs.map Tc.pairD ∧ (rs.Pairwise fun x y => x.1 < y.1) ∧ ∀ r ∈ rs, l ≤ r.1 ∧ 0 ≤ r.1 ∧ r.1 < 1000 ∧ 0 ≤ r.2 ∧ r.2 < 1000
  | [], _, _ => ⟨[], rfl, .nil, fun r m => (by cases m)⟩
  | d :: ds, l, h => by
    rw [rising, Bool.and_eq_true, Bool.and_eq_true, decide_eq_true_eq] at h
    obtain ⟨⟨h1, h2⟩, h3⟩ := h
    obtain ⟨rs, rfl, up, inn⟩ := rows_of ds _ h3
    obtain ⟨k, z, rfl, hk⟩ : ∃ k z : Int, d = Tc.pairD (k, z) ∧ 0 ≤ k ∧ k < 1000 ∧ 0 ≤ z ∧ z < 1000 := by
      cases d with
      | tuple es =>
        obtain ⟨d0, d1, rfl, k0, k1⟩ := row_two h1
        cases d0 with
        | int k =>
          cases d1 with
          | int z =>
            have p0 : (decide (0 ≤ k) && decide (k < 1000)) = true := k0
            have p1 : (decide (0 ≤ z) && decide (z < 1000)) = true := k1
            rw [Bool.and_eq_true, decide_eq_true_eq, decide_eq_true_eq] at p0 p1
            exact ⟨k, z, rfl, p0.1, p0.2, p1.1, p1.2⟩
          | _ => cases k1
        | _ => cases k0
      | _ => cases h1
    have kk : keyOf (Tc.pairD (k, z)) = k := rfl
    rw [kk] at h2 inn
    refine ⟨(k, z) :: rs, rfl, List.pairwise_cons.mpr ⟨fun r m => ?_, up⟩, fun r m => ?_⟩
    · have := (inn r m).1
      show k < r.1
      omega
    · rcases List.mem_cons.mp m with rfl | m
      · exact ⟨h2, hk.1, hk.2.1, hk.2.2.1, hk.2.2.2⟩
      · have := inn r m
        exact ⟨by omega, this.2⟩
theorem table_rs {d : PyData} (h : isTable d = true) : ∃ rs, d = rowsD rs ∧ RsOk rs := by
  cases d with
  | tuple ds =>
    have h' : (decide (ds.length ≤ 100) && rising 0 ds) = true := h
    rw [Bool.and_eq_true, decide_eq_true_eq] at h'
    obtain ⟨rs, rfl, up, inn⟩ := rows_of ds 0 h'.2
    exact ⟨rs, rfl, up, fun r m => (inn r m).2, by have := h'.1; rw [List.length_map] at this; exact this⟩
  | _ => cases h
/-- the rows of what rows make are the rows -/
theorem rows_back {rs : List (Int × Int)} {js : List Int} (up : rs.Pairwise fun x y => x.1 < y.1) (h : KeysOf (fRows rs) js) : rowsOf (fRows rs) js = rs := by
  have e : js = rs.map (·.1) := KeysOf.one h ⟨List.pairwise_map.mpr up, fun k => by
    rw [List.mem_map, Option.isSome_iff_exists]
    constructor
    · rintro ⟨r, m, rfl⟩
      exact ⟨r.2, (fRows_mem up).mpr m⟩
    · rintro ⟨z, e⟩
      exact ⟨(k, z), (fRows_mem up).mp e, rfl⟩⟩
  subst e
  unfold rowsOf
  rw [List.map_map]
  conv => rhs; rw [← List.map_id rs]
  refine List.map_congr_left fun r m => ?_
  show (r.1, (fRows rs r.1).getD 0) = r
  rw [(fRows_mem up).mpr m]
  rfl
/-- House(..) -/
def spHInit (K : PySem.W.Frag) (C CT : Addr) : Sp := fun vs H Q E => ∃ (p dx : Addr) (v : V) (d : PyData), vs = [.ref p, v] ∧ H p = some (.ins C dx []) ∧ Dp K H v d ∧
  (isTable d = false → ∀ H', Ex H H' → E (.ref CT) none H') ∧
  (∀ (rs : List (Int × Int)) (dW dK dL dR : Addr) (kvs : List (Key × V)) (H' : Hp), d = rowsD rs → isTable d = true → RsOk rs → (∀ a o, a ≠ p → H a = some o → H' a = some o) → HsAt C H' p dW dK dL dR kvs [] 0 0 0 [] [] → DI allK kvs (fRows rs) → (H dW = none ∧ H dK = none ∧ H dL = none ∧ H dR = none) → Q .non H')
section
variable {P : Program} {w : World} {K : PySem.W.Frag} {mg : Str → Option Value} {base : Heap}
theorem take_rows (rs : List (Int × Int)) {i : Nat} {r : Int × Int} (h : rs[i]? = some r) : rs.take (i + 1) = rs.take i ++ [r] := by
  rw [List.take_succ, h]
  rfl
theorem ok_rising {f : Addr} {fd : FuncData} {k : Nat} (F : Fun K "rising" "rising" sRi f fd) (N : Names mg) : FnOk P w K mg base CX0 (k + 1) f fd ["rows"] (spRising K) := by
  refine F.ok scRi (fun vs H Q E h => ?_) (fun cdv A outer s H vs Q E hr h => ?_)
  · obtain ⟨D, ks, kvs, f, rfl, _⟩ := h
    rfl
  · obtain ⟨D, ks, kvs, f, rfl, hD2, di, h64, q⟩ := h
    refine ⟨_, pss_one (ps_ret (pe_callTy cr_tupP (by rfl) N.tuple boot_tuple (pa_cons (pe_lc (own := [("key", 1)]) (g := gName 1) (tt := tYes) (te := tTup (tCons (tVar 1) (tCons (tDGet (tVar 0) (tVar 1)) tNil))) rfl scRi.nd (pi_list (pe_callB (cr_sortedDA rfl) (by rfl) N.sorted boot_sorted (pa_cons (pv 0) pa_nil))) (blkOk_by (N := ["rows", "key"]) (sc := defScope sRi) (by decide +kernel)) (fun _ _ _ _ _ => pg_name (i := 1) scRi.nd rfl (Or.inl rfl)) (fun _ _ _ _ _ => pts_nil) (fun _ _ _ _ _ => (pe_tup (pa_cons (pv 1) (pa_cons (pe_dget (hu_of hr) (pv 0) (pv 1) (fun _ _ => rfl)) pa_nil))))) pa_nil))), ?_⟩
    obtain ⟨js0, hks, nd, mem, hlen⟩ := di.keys
    refine ⟨.ref D, rfl, D, kvs, js0, rfl, .inl hD2, hks, fun ys p pm pw hp => ⟨p, rfl, ⟨_, sq_of upd_same⟩, fun D2 hD3 => ?_⟩⟩
    have ndy : ys.Nodup := pm.nodup_iff.mpr nd
    have kf : KeysOf f ys := ⟨lt_of_le_nodup pw ndy, fun k => (pm.mem_iff).trans (mem k)⟩
    have x3 : Ex H (upd H p (.lst (ys.map V.int))) := Ex.new hp
    generalize hH3 : upd H p (.lst (ys.map V.int)) = H3 at x3 hD3
    have hp3 : H3 p = some (.lst (ys.map V.int)) := by rw [← hH3]; exact upd_same
    refine lc_list (K := K) (a := p) (xs := ys.map V.int) (fun i H' => ∃ vs, Ex H3 H' ∧ H' D2 = some (.lst vs) ∧ vs.length = i ∧ DpAll K (hid D2 H') vs ((rowsOf f (ys.take i)).map Tc.pairD)) ⟨[], Ex.new hD3, upd_same, rfl, .nil⟩ (fun i H' _ h => ?_) (fun i x H' hx h => ⟨rfl, ?_⟩) (fun H' h => ?_)
    · obtain ⟨vs, x4, _⟩ := h
      exact sq_of (x4 p _ hp3)
    · obtain ⟨vs, x4, h4, hvl, hv⟩ := h
      rw [List.getElem?_map] at hx
      obtain ⟨kk, hkk, rfl⟩ := Option.map_eq_some_iff.mp hx
      have hm := (kf.2 kk).mp (List.mem_of_getElem? hkk)
      obtain ⟨ww, hww⟩ := Option.isSome_iff_exists.mp hm
      have hval : valV kvs (.inl kk) = some (.int ww) := by rw [di.val, hww]; rfl
      have hi : i < ys.length := (List.getElem?_eq_some_iff.mp hkk).1
      have hyl : ys.length = js0.length := pm.length_eq
      refine iteT (B := ∃ vs, Ex H3 H' ∧ H' D2 = some (.lst vs) ∧ vs.length = i + 1 ∧ DpAll K (hid D2 H') vs ((rowsOf f (ys.take (i + 1))).map Tc.pairD)) ?_
      refine ⟨.int kk, rfl, .ref D, rfl, .int kk, rfl, D, .int ww, rfl, by rw [← hval]; exact DGet.k (k := .inl kk) (x4 D _ (x3 D _ hD2)), sz_of (by simp), fun t ht => ?_⟩
      have htD : t ≠ D2 := fun z => by
        subst z
        rw [h4] at ht
        cases ht
      have x5 : Ex H' (upd H' t (.tup [.int kk, .int ww])) := Ex.new ht
      refine ⟨vs, x5 D2 _ h4, sz_lt (by omega), vs ++ [.ref t], (x4.trans x5).mut hD3, upd_same, by simp [hvl], ?_⟩
      rw [hid_upd, List.take_succ, hkk]
      unfold rowsOf
      rw [List.map_append, List.map_append]
      refine dps_app (dps_same (ex_hid x5) _ _ hv) (.cons ?_ .nil)
      show Dp K _ (.ref t) (.tuple [.int kk, .int ((f kk).getD 0)])
      rw [hww]
      exact .tup (st_of (hid_at upd_same htD)) (.cons (.int kk) (.cons (.int ww) .nil))
    · obtain ⟨vs, x4, h4, _, hv⟩ := h
      rw [List.length_map, List.take_length] at hv
      refine ⟨D2, vs, rfl, sq_of h4, fun t o ht od => ?_⟩
      have xA : Ex H (upd H' t (.frz o (.tup vs))) := (x3.trans x4).trans (Ex.new ht)
      have tn : H t = none := by
        cases e : H t with
        | none => rfl
        | some u =>
          have := ((x3.trans x4) t u e).symm.trans ht
          cases this
      refine q t ys _ tn xA kf (fun j m => ?_) ⟨vs, ⟨o, upd_same, od⟩, dps_same (Ex.new ht) _ _ (dps_same (hid_same D2 H') _ _ hv)⟩
      have := (kf.2 j).mp m
      rw [← (mem j)] at this
      have h2 : (Sum.inl j : Key) ∈ kvs.map (·.1) := hks ▸ List.mem_map.mpr ⟨j, this, rfl⟩
      obtain ⟨pp, hp1, hp2⟩ := List.mem_map.mp h2
      obtain ⟨kk, hk1, hk2⟩ := di.inn pp hp1
      cases (hp2.symm.trans hk2 : (Sum.inl j : Key) = Sum.inl kk)
      exact hk1
set_option maxHeartbeats 1000000 in
theorem ok_hinit {f C CT e0 : Addr} {fd : FuncData} {bm : List Value} {kI k : Nat} (F : FunD K "__init__" "House.__init__" (defArgs mInit) (defBody mInit) (defScope mInit) [.ref e0] [] f fd) (T : HTx K mg C) (F0 : ExcBaseFacts "ValueError" "ValueError.__new__" "ValueError.__init__" bm) (dE : OwnE0 K mg "NoTable" CT bm) (dI : Own P w K mg base "is_table" ["thing"] kI (spTold K isTable)) (hI : kI ≤ k) :
    FnOk P w K mg base (L2N.CX P w) (k + 1) f fd ["self", "table"] (spHInit K C CT) := by
  refine F.ok (CX := L2N.CX P w) smInit (fun vs H Q E h => ?_) (fun cdv A outer s H vs Q E hr h => ?_)
  · obtain ⟨p, dx, v, d, rfl, _⟩ := h
    rfl
  · obtain ⟨p, dx, v, d, rfl, hp, hd, q1, q2⟩ := h
    refine ⟨_, (pss_cons (ps_if (pt_not (pt_val (pe_own dI hr hI (by rfl) (pa_cons (pv 1) pa_nil)))) (pss_one (ps_raise0 F0 dE rfl (L2N.takes_of rfl rfl rfl rfl) (by rfl))) pss_nil)
      (pss_cons (ps_fld (pv 0) (pe_dc (own := [("key", 2), ("worth", 3)]) (g := gTup K 2 (gCons (gName 2) (gCons (gName 3) gNil))) (tt := tYes) (tk := tVar 2) (tv := tVar 3) rfl smInit.nd (pi_tup (pv 1)) (blkOk_by (N := ["self", "table", "key", "worth"]) (sc := defScope mInit) (by decide +kernel)) (fun _ _ _ _ _ => pg_tup rfl (pgs_cons (pg_name (i := 2) smInit.nd rfl (Or.inl rfl)) (pgs_cons (pg_name (i := 3) smInit.nd rfl (Or.inl rfl)) pgs_nil))) (fun _ _ _ _ _ => pts_nil) (fun _ _ _ _ _ => pv 2) (fun _ _ _ _ _ => pv 3)) rfl)
      (pss_cons (ps_fld (pv 0) (pe_lst pa_nil) rfl)
      (pss_cons (ps_fld (pv 0) pe_int rfl)
      (pss_cons (ps_fld (pv 0) pe_int rfl)
      (pss_cons (ps_fld (pv 0) pe_int rfl)
      (pss_cons (ps_fld (pv 0) pe_dnewK rfl)
      (pss_one (ps_fld (pv 0) pe_dnewK rfl))))))))), ?_⟩
    refine s_seq (s_if (b := !isTable d) (et_not (et_B (ev_told (ev_var rfl) hd))) (fun z H1 x1 => ?_) fun z H1 x1 => s_next ?_)
    · exact q1 (by cases e : isTable d with | true => rw [e] at z; cases z | false => rfl) H1 x1
    have ht : isTable d = true := by cases e : isTable d with | true => rfl | false => rw [e] at z; cases z
    obtain ⟨rs, rfl, ok⟩ := table_rs ht
    have I1 := (Ini.start hp).ex x1
    have hd1 := dp_same x1 _ _ hd
    obtain ⟨a, xs, rfl, hs, hA⟩ : ∃ a xs, v = .ref a ∧ SqT K H1 a xs ∧ DpAll K H1 xs (rs.map Tc.pairD) := by
      cases hd1 with
      | tup hs hA => exact ⟨_, _, rfl, hs, hA⟩
    have hlen : xs.length = rs.length := by rw [dps_len hA, List.length_map]
    have n0 : ([] : List (Str × V)).length ≤ 0 := Nat.le_refl _
    dsimp only
    have mkD : ∀ Q' : VK, (∀ D kvs H', H1 D = none → Ex H1 H' → H' D = some (.dK kvs) → DI allK kvs (fRows rs) → Q' (.ref D) H') → tDc (iTup K (tVar 1)) (gTup K 2 (gCons (gName 2) (gCons (gName 3) gNil))) tYes (tVar 2) (tVar 3) [2, 3] (start ["self", "table", "key", "worth"] [.ref p, .ref a]) H1 Q' := fun Q' q' => by
      refine ⟨.ref a, rfl, a, rfl, ⟨xs, hs⟩, fun D hD => ?_⟩
      have x0 : Ex H1 (upd H1 D (.dK [])) := Ex.new hD
      refine dc_tup (K := K) (xs := xs) (fun i H' => ∃ kvs, Bar D (upd H1 D (.dK [])) H' ∧ H' D = some (.dK kvs) ∧ DI allK kvs (fRows (rs.take i))) ⟨[], Bar.refl D _, upd_same, DI.nil⟩ (fun i H' _ h => ?_) (fun i x H' hx h => ?_) (fun H' h => ?_)
      · obtain ⟨kvs, b, _, _⟩ := h
        exact bar_t (kvs := []) upd_same b (Evl.ex_t x0 hs)
      · obtain ⟨kvs, b, hD', di⟩ := h
        obtain ⟨d, hd, hxd⟩ := dps_at (dps_bar (kvs := []) upd_same b _ _ (dps_same x0 _ _ hA)) hx
        rw [List.getElem?_map] at hd
        obtain ⟨r, hr', rfl⟩ := Option.map_eq_some_iff.mp hd
        obtain ⟨pa, u0, u1, rfl, ht, h0, h1⟩ := dpt2 hxd
        cases h0
        cases h1
        refine ⟨pa, _, rfl, ht, rfl, _, _, rfl, _, _, rfl, rfl, rfl, ?_⟩
        refine iteT (B := ∃ kvs, Bar D (upd H1 D (.dK [])) H' ∧ H' D = some (.dK kvs) ∧ DI allK kvs (fRows (rs.take (i + 1)))) ⟨_, rfl, _, rfl, kvs, .inl r.1, rfl, hD', sz_lt (by have := di.len; rw [allK_len] at this; omega), putK kvs (.inl r.1) (.int r.2), b.put, upd_same, ?_⟩
        rw [take_rows rs hr']
        unfold fRows
        rw [List.map_append, appl_app]
        have := ok.inn r (List.mem_of_getElem? hr')
        exact di.put (allK_mem this.1 this.2.1)
      · obtain ⟨kvs, b, hD', di⟩ := h
        rw [hlen, List.take_length] at di
        exact q' D kvs H' hD (b.exOf x0 hD) hD' di
    refine s_seq (mkD _ fun dW kvs H2 nW x2 hW di => ?_)
    have I2 := I1.new nW x2 hW
    refine ⟨.ref p, rfl, p, C, dx, [], rfl, I2.ob, T.cl, T.aW, by show 0 < 1000; decide, ?_⟩
    have I3 := I2.fld (putF "worths" (.ref dW) [])
    have n1 : (putF "worths" (.ref dW) []).length ≤ 1 := putF_le n0
    generalize upd H2 p (.ins C dx (putF "worths" (.ref dW) [])) = H3 at I3
    dsimp only
    refine s_seq (ini_g I3 (fun Q' q' => new_l q') rfl T.cl T.aK (by omega) fun dK H4 I4 => ?_)
    have n2 := putF_le (f := "kept") (v := .ref dK) n1
    dsimp only
    refine s_seq (ini_c I4 ev_c rfl T.cl T.aF (by omega) fun H5 I5 => ?_)
    have n3 := putF_le (f := "first_kept") (v := .int 0) n2
    dsimp only
    refine s_seq (ini_c I5 ev_c rfl T.cl T.aG (by omega) fun H6 I6 => ?_)
    have n4 := putF_le (f := "lives_given") (v := .int 0) n3
    dsimp only
    refine s_seq (ini_c I6 ev_c rfl T.cl T.aB (by omega) fun H7 I7 => ?_)
    have n5 := putF_le (f := "begun") (v := .int 0) n4
    dsimp only
    refine s_seq (ini_g I7 (fun Q' q' => new_d q') rfl T.cl T.aL (by omega) fun dL H8 I8 => ?_)
    have n6 := putF_le (f := "living") (v := .ref dL) n5
    dsimp only
    refine ini_g I8 (fun Q' q' => new_d q') rfl T.cl T.aR (by omega) fun dR H9 I9 => ?_
    have ob := I9.ob
    rw [hfl_made] at ob
    have nd := I9.nd
    simp only [List.map_cons, List.map_nil, List.nodup_cons, List.mem_cons, List.not_mem_nil, or_false, not_or] at nd
    have nw := fun q m => (I9.nws q m).1
    have nn := fun q m => (I9.nws q m).2.1
    simp only [List.mem_cons, List.not_mem_nil, or_false] at nw nn
    exact q2 rs dW dK dL dR kvs H9 rfl ht ok I9.bb ⟨⟨dx, ob⟩, nw _ (.inr (.inr (.inr rfl))), nw _ (.inr (.inr (.inl rfl))), nw _ (.inr (.inl rfl)), nw _ (.inl rfl), fun z => nd.2.1.2 z.symm, fun z => nd.1.2.2 z.symm, fun z => nd.1.1 z.symm⟩ di ⟨nn _ (.inr (.inr (.inr rfl))), nn _ (.inr (.inr (.inl rfl))), nn _ (.inr (.inl rfl)), nn _ (.inl rfl)⟩
end
end K13
namespace K13
open PySem L2 PyProof.Rows Tc Evl
/-- the rows told -/
def spHTab (K : PySem.W.Frag) (C : Addr) : Sp := fun vs H Q _ => ∃ (p dW dK dL dR : Addr) (kvs : List (Key × V)) (kept : List V) (fk lg bg : Int) (liv run : List (Key × V)) (f : Int → Option Int), vs = [.ref p] ∧ HsAt C H p dW dK dL dR kvs kept fk lg bg liv run ∧ DI allK kvs f ∧ ∀ t js H', H t = none → Ex H H' → KeysOf f js → TP K H' t (rowsOf f js) → Q (.ref t) H'
def spHPl (C : Addr) : Sp := fun vs H Q _ => ∃ (p dW dK dL dR : Addr) (kvs : List (Key × V)) (kept : List V) (fk lg bg : Int) (liv run : List (Key × V)), vs = [.ref p] ∧ HsAt C H p dW dK dL dR kvs kept fk lg bg liv run ∧ ∀ t H', H t = none → Ex H H' → H' t = some (.tup [.int fk, .int (fk + (kept.length : Int))]) → Q (.ref t) H'
def spHEn (C : Addr) : Sp := fun vs H Q _ => ∃ (p dW dK dL dR : Addr) (kvs : List (Key × V)) (kept : List V) (fk lg bg : Int) (liv run : List (Key × V)) (i m : Nat), vs = [.ref p, .int (fk + (i : Int)), .int (m : Int)] ∧ HsAt C H p dW dK dL dR kvs kept fk lg bg liv run ∧ i ≤ kept.length ∧ ∀ t H', H t = none → Ex H H' → H' t = some (.lst ((kept.drop i).take m)) → Q (.ref t) H'
def optV : Option Int → V
  | some z => .int z
  | none => .non
/-- the lives, rising, each with the place that it holds -/
def livV (l : List (Int × Option Int)) : List (Key × V) := l.map fun r => (.inl r.1, optV r.2)
def holdD (l : List (Int × Option Int)) : List PyData := l.filterMap fun r => r.2.map fun z => Tc.pairD (r.1, z)
def spHHo (K : PySem.W.Frag) (C : Addr) : Sp := fun vs H Q _ => ∃ (p dW dK dL dR : Addr) (kvs : List (Key × V)) (kept : List V) (fk lg bg : Int) (liv run : List (Key × V)) (l : List (Int × Option Int)), vs = [.ref p] ∧ HsAt C H p dW dK dL dR kvs kept fk lg bg liv run ∧ liv = livV l ∧ (l.Pairwise fun x y => x.1 < y.1) ∧ l.length ≤ 10000 ∧ ∀ t us H', H t = none → Ex H H' → H' t = some (.lst us) → DpAll K H' us (holdD l) → Q (.ref t) H'
def spHLi (C : Addr) : Sp := fun vs H Q _ => ∃ (p dW dK dL dR : Addr) (kvs : List (Key × V)) (kept : List V) (fk lg bg : Int) (liv run : List (Key × V)) (l : List (Int × Option Int)), vs = [.ref p] ∧ HsAt C H p dW dK dL dR kvs kept fk lg bg liv run ∧ liv = livV l ∧ (∀ r ∈ l, r.1 ≤ lg) ∧ l.length ≤ 10000 ∧ ∀ H', (∀ a o, a ≠ p → a ≠ dL → H a = some o → H' a = some o) → HsAt C H' p dW dK dL dR kvs kept fk (lg + 1) bg (livV (l ++ [(lg + 1, none)])) run → Q (.int (lg + 1)) H'
def spHRe0 (C : Addr) : Sp := fun vs H Q _ => ∃ (p dW dK dL dR : Addr) (kvs : List (Key × V)) (kept : List V) (fk lg bg : Int) (liv run : List (Key × V)), vs = [.ref p] ∧ HsAt C H p dW dK dL dR kvs kept fk lg bg liv run ∧ run = [] ∧ ∀ t H', H t = none → Ex H H' → H' t = some (.lst []) → Q (.ref t) H'
theorem liv_val : ∀ {l : List (Int × Option Int)} {i : Nat} {r : Int × Option Int}, (l.Pairwise fun x y => x.1 < y.1) → l[i]? = some r → valV (livV l) (.inl r.1) = some (optV r.2)
  | [], _, _, _, h => by cases h
  | q :: l, 0, r, _, h => by
    cases h
    exact valV_pos rfl
  | q :: l, i + 1, r, pw, h => by
    obtain ⟨p1, p2⟩ := List.pairwise_cons.mp pw
    have m : r ∈ l := List.mem_of_getElem? h
    have lt := p1 r m
    show valV ((.inl q.1, optV q.2) :: livV l) (.inl r.1) = _
    rw [valV_neg fun z => by
      have := Sum.inl.inj z
      omega]
    exact liv_val p2 h
theorem liv_none {l : List (Int × Option Int)} {k : Int} (h : ∀ r ∈ l, r.1 ≠ k) : valV (livV l) (.inl k) = none := by
  induction l with
  | nil => rfl
  | cons q l ih =>
    show valV ((.inl q.1, optV q.2) :: livV l) (.inl k) = none
    rw [valV_neg fun z => h q List.mem_cons_self (Sum.inl.inj z)]
    exact ih fun r m => h r (List.mem_cons_of_mem _ m)
section
variable {P : Program} {w : World} {K : PySem.W.Frag} {mg : Str → Option Value} {base : Heap}
theorem ok_htab {f C : Addr} {fd : FuncData} {kR k : Nat} (F : Fun K "table" "House.table" mTable f fd) (T : HTx K mg C) (dRi : Own P w K mg base "rising" ["rows"] kR (spRising K)) (hRi : kR ≤ k) : FnOk P w K mg base (L2N.CX P w) (k + 1) f fd ["self"] (spHTab K C) := by
  refine okN F smTable (fun vs H Q E h => ?_) (fun cdv A outer s H vs Q E hr h => ?_)
  · obtain ⟨p, dW, dK, dL, dR, kvs, kept, fk, lg, bg, liv, run, f, rfl, _⟩ := h
    rfl
  · obtain ⟨p, dW, dK, dL, dR, kvs, kept, fk, lg, bg, liv, run, f, rfl, S, di, q⟩ := h
    refine ⟨_, (pss_one (ps_ret (pe_own dRi hr hRi (by rfl) (pa_cons (pe_fld (pv 0) rfl) pa_nil)))), ?_⟩
    obtain ⟨dx, hp⟩ := S.ob
    exact ⟨_, rfl, p, C, dx, _, _, rfl, hp, T.cl, T.aW, hl_worths _ _ _ _ _ _ _ , dW, allK, kvs, f, rfl, S.wo, di, by rw [allK_len]; omega, fun t js H' ht x kf _ tp => q t js H' ht x kf tp⟩
theorem ok_hpl {f C : Addr} {fd : FuncData} {k : Nat} (F : Fun K "places" "House.places" mPlaces f fd) (N : Names mg) (T : HTx K mg C) : FnOk P w K mg base (L2N.CX P w) (k + 1) f fd ["self"] (spHPl C) := by
  refine okN F smPlaces (fun vs H Q E h => ?_) (fun cdv A outer s H vs Q E hr h => ?_)
  · obtain ⟨p, dW, dK, dL, dR, kvs, kept, fk, lg, bg, liv, run, rfl, _⟩ := h
    rfl
  · obtain ⟨p, dW, dK, dL, dR, kvs, kept, fk, lg, bg, liv, run, rfl, S, q⟩ := h
    refine ⟨_, (pss_one (ps_ret (pe_tup (pa_cons (pe_fld (pv 0) rfl) (pa_cons (pe_op op_add (pe_fld (pv 0) rfl) (pe_callB call_len_seq (by rfl) N.len PySem.boot_len (pa_cons (pe_fld (pv 0) rfl) pa_nil))) pa_nil))))), ?_⟩
    obtain ⟨dx, hp⟩ := S.ob
    refine ⟨_, rfl, p, C, dx, _, _, rfl, hp, T.cl, T.aF, hl_first_kept _ _ _ _ _ _ _ , _, rfl, p, C, dx, _, _, rfl, hp, T.cl, T.aF, hl_first_kept _ _ _ _ _ _ _ , _, rfl, p, C, dx, _, _, rfl, hp, T.cl, T.aK, hl_kept _ _ _ _ _ _ _ , dK, kept, rfl, .inl (sq_of S.ke), fk, _, rfl, rfl, sz_of (by simp), fun t ht => q t _ ht (Ex.new ht) upd_same⟩
theorem cut_from (us : List V) (i : Nat) (hi : i ≤ us.length) : cutV us (some (i : Int)) none = us.drop i := by
  have e1 : HT.sIx us.length 0 (some (i : Int)) = i := by
    simp only [HT.sIx]
    split <;> omega
  have e2 : HT.sIx us.length us.length none = us.length := rfl
  unfold cutV
  rw [e1, e2, List.take_of_length_le (by rw [List.length_drop]; omega)]
theorem cut_to (us : List V) (m : Nat) : cutV us none (some (m : Int)) = us.take m := by
  have e1 : HT.sIx us.length us.length (some (m : Int)) = min m us.length := by
    simp only [HT.sIx]
    split <;> omega
  have e2 : HT.sIx us.length 0 none = 0 := rfl
  unfold cutV
  rw [e1, e2, List.drop_zero, Nat.sub_zero]
  rcases Nat.le_total m us.length with h | h
  · rw [Nat.min_eq_left h]
  · rw [Nat.min_eq_right h, List.take_length, List.take_of_length_le h]
theorem ok_hen {f C : Addr} {fd : FuncData} {kP k : Nat} (F : Fun K "entries" "House.entries" mEntries f fd) (N : Names mg) (T : HTx K mg C) (dP : MethX P w K mg base C "places" ["self"] kP (spHPl C)) (hP : kP ≤ k) : FnOk P w K mg base (L2N.CX P w) (k + 1) f fd ["self", "place", "many"] (spHEn C) := by
  refine okN F smEntries (fun vs H Q E h => ?_) (fun cdv A outer s H vs Q E hr h => ?_)
  · obtain ⟨p, dW, dK, dL, dR, kvs, kept, fk, lg, bg, liv, run, i, m, rfl, _⟩ := h
    rfl
  · obtain ⟨p, dW, dK, dL, dR, kvs, kept, fk, lg, bg, liv, run, i, m, rfl, S, hi, q⟩ := h
    refine ⟨_, (pss_cons (ps_asg (pe_methX0 dP (L2N.takes_of rfl rfl rfl rfl) hr hP T.cl (pv 0)) (pg_tup rfl (pgs_cons (pg_name (i := 3) smEntries.nd rfl (.inl rfl)) (pgs_cons (pg_name (i := 4) smEntries.nd rfl (.inl rfl)) pgs_nil))))
      (pss_cons (ps_if (pt_cmpR op_gt (pv 1) (pv 4) (nomark _)) pss_never pss_nil)
      (pss_cons (ps_if (pt_cmpR op_lt (pv 1) (pv 3) (nomark _)) pss_never pss_nil)
      (pss_one (ps_ret (pe_slice sl_list (pe_slice sl_list (pe_fld (pv 0) rfl) (po_some (pe_op op_sub (pv 1) (pv 3))) po_none) po_none (po_some (pe_callB (call_max2 rfl) (by rfl) N.max boot_max (pa_cons pe_int (pa_cons (pv 2) pa_nil)))))))))), ?_⟩
    obtain ⟨dx, hp⟩ := S.ob
    refine s_seq ⟨.ref p, rfl, p, dx, _, rfl, hp, hfl_no _ _ _ _ _ _ _  (by decide +kernel), p, dW, dK, dL, dR, kvs, kept, fk, lg, bg, liv, run, rfl, S, fun t H1 ht x1 h1 => ?_⟩
    refine ⟨t, _, rfl, st_of h1, rfl, _, _, rfl, _, _, rfl, rfl, ?_⟩
    dsimp only
    refine s_seq (s_if (b := false) (et_is (et_test (ev_op (ev_var rfl) (ev_var rfl) rv_I0)) (decide_eq_false (by omega))) (fun z => by cases z) fun _ H2 x2 => s_next ?_)
    dsimp only
    refine s_seq (s_if (b := false) (et_is (et_test (ev_op (ev_var rfl) (ev_var rfl) rv_I0)) (decide_eq_false (by omega))) (fun z => by cases z) fun _ H3 x3 => s_next ?_)
    have S3 := S.ex ((x1.trans x2).trans x3)
    obtain ⟨dx3, hp3⟩ := S3.ob
    have e1 : fk + (i : Int) - fk = (i : Int) := by omega
    refine ⟨_, rfl, p, C, dx3, _, _, rfl, hp3, T.cl, T.aK, hl_kept _ _ _ _ _ _ _ , _, rfl, _, rfl, _, _, rfl, rfl, _, rfl, dK, kept, rfl, sq_of S3.ke, fun l1 hl1 => ?_⟩
    rw [e1, cut_from _ _ hi]
    have x4 : Ex H3 (upd H3 l1 (.lst (kept.drop i))) := Ex.new hl1
    refine ⟨.int (m : Int), rfl, 0, (m : Int), rfl, (m : Int), ?_, l1, _, rfl, sq_of upd_same, fun l2 hl2 => ?_⟩
    · congr 1
      split <;> omega
    rw [cut_to]
    exact q l2 _ (fresh_back (((x1.trans x2).trans x3).trans x4) hl2) ((((x1.trans x2).trans x3).trans x4).trans (Ex.new hl2)) upd_same
theorem dp_rowp {H : Hp} {t : Addr} {k z : Int} (h : H t = some (.tup [.int k, .int z])) : Dp K H (.ref t) (Tc.pairD (k, z)) := .tup (st_of h) (.cons (.int k) (.cons (.int z) .nil))
set_option maxHeartbeats 1000000 in
theorem ok_hho {f C : Addr} {fd : FuncData} {k : Nat} (F : Fun K "holds" "House.holds" mHolds f fd) (N : Names mg) (T : HTx K mg C) : FnOk P w K mg base (L2N.CX P w) (k + 1) f fd ["self"] (spHHo K C) := by
  refine okN F smHolds (fun vs H Q E h => ?_) (fun cdv A outer s H vs Q E hr h => ?_)
  · obtain ⟨p, dW, dK, dL, dR, kvs, kept, fk, lg, bg, liv, run, l, rfl, _⟩ := h
    rfl
  · obtain ⟨p, dW, dK, dL, dR, kvs, kept, fk, lg, bg, liv, run, l, rfl, S, rfl, up, few, q⟩ := h
    refine ⟨_, (pss_one (ps_ret (pe_lc (own := [("life", 1)]) (g := gName 1) (tt := tTest (tOp rNotN (tDGet (tFld K (tVar 0) "living") (tVar 1)) (tC .non))) (te := tTup (tCons (tVar 1) (tCons (tDGet (tFld K (tVar 0) "living") (tVar 1)) tNil))) rfl smHolds.nd (pi_list (pe_callB (cr_sortedDA rfl) (by rfl) N.sorted boot_sorted (pa_cons (pe_fld (pv 0) rfl) pa_nil))) (blkOk_by (N := ["self", "life"]) (sc := defScope mHolds) (by decide +kernel)) (fun _ _ _ _ _ => pg_name (i := 1) smHolds.nd rfl (Or.inl rfl)) (fun _ _ _ _ _ => pts_one (pt_cmpR op_notN1 (pe_dget (hu_of hr) (pe_fld (pv 0) rfl) (pv 1) (fun _ _ => rfl)) pe_non (nomark _))) (fun _ _ _ _ _ => (pe_tup (pa_cons (pv 1) (pa_cons (pe_dget (hu_of hr) (pe_fld (pv 0) rfl) (pv 1) (fun _ _ => rfl)) pa_nil))))))), ?_⟩
    obtain ⟨dx, hp⟩ := S.ob
    have hks : (livV l).map (·.1) = (l.map (·.1)).map Sum.inl := by
      unfold livV
      rw [List.map_map, List.map_map]
      rfl
    refine ⟨_, rfl, p, C, dx, _, _, rfl, hp, T.cl, T.aL, hl_living _ _ _ _ _ _ _ , dL, livV l, l.map (·.1), rfl, .inl S.li, hks, fun ys r pm pw hr' => ⟨r, rfl, ⟨_, sq_of upd_same⟩, fun D hD => ?_⟩⟩
    have ey : ys = l.map (·.1) := pm.eq_of_pairwise (fun a b _ _ h1 h2 => by omega) pw ((List.pairwise_map.mpr up).imp fun {a b} z => by omega)
    subst ey
    have x3 : Ex H (upd H r (.lst ((l.map (·.1)).map V.int))) := Ex.new hr'
    generalize hH3 : upd H r (.lst ((l.map (·.1)).map V.int)) = H3 at x3 hD
    have hr3 : H3 r = some (.lst ((l.map (·.1)).map V.int)) := by rw [← hH3]; exact upd_same
    have S3 := S.ex x3
    refine lc_list (K := K) (a := r) (xs := (l.map (·.1)).map V.int) (fun i G => ∃ us, Ex H3 G ∧ G D = some (.lst us) ∧ us.length ≤ i ∧ DpAll K (hid D G) us (holdD (l.take i))) ⟨[], Ex.new hD, upd_same, Nat.le_refl _, .nil⟩ (fun i G _ h => ?_) (fun i x G hx h => ⟨rfl, ?_⟩) (fun G h => ?_)
    · obtain ⟨us, x4, _⟩ := h
      exact sq_of (x4 r _ hr3)
    · obtain ⟨us, x4, h4, ul, hu⟩ := h
      rw [List.map_map, List.getElem?_map] at hx
      obtain ⟨rr, hrr, rfl⟩ := Option.map_eq_some_iff.mp hx
      have hi : i < l.length := (List.getElem?_eq_some_iff.mp hrr).1
      have hval := liv_val up hrr
      have htk : l.take (i + 1) = l.take i ++ [rr] := by
        rw [List.take_succ, hrr]
        rfl
      have S4 := S3.ex x4
      obtain ⟨dx4, hp4⟩ := S4.ob
      have hD1 : holdD (l.take (i + 1)) = holdD (l.take i) ++ holdD [rr] := by
        rw [htk]
        exact List.filterMap_append
      obtain ⟨kk, oo⟩ := rr
      refine ⟨_, rfl, p, C, dx4, _, _, rfl, hp4, T.cl, T.aL, hl_living _ _ _ _ _ _ _ , .int kk, rfl, dL, optV oo, rfl, by rw [← hval]; exact DGet.k (k := .inl kk) S4.li, rfl, _, rfl, ?_⟩
      cases oo with
      | none =>
        show if (!decide ((V.non : V) = .non)) = true then _ else _
        rw [if_neg (by simp)]
        refine ⟨us, x4, h4, by omega, ?_⟩
        rw [hD1, show holdD [(kk, none)] = [] from rfl, List.append_nil]
        exact hu
      | some z =>
        show if (!decide ((V.int z : V) = .non)) = true then _ else _
        rw [if_pos (by simp)]
        refine ⟨.int kk, rfl, _, rfl, p, C, dx4, _, _, rfl, hp4, T.cl, T.aL, hl_living _ _ _ _ _ _ _ , .int kk, rfl, dL, .int z, rfl, by rw [show some (V.int z) = valV (livV l) (.inl kk) from hval.symm]; exact DGet.k (k := .inl kk) S4.li, sz_of (by simp), fun t ht => ?_⟩
        have htD : t ≠ D := fun z => by
          rw [z, h4] at ht
          cases ht
        have x5 : Ex G (upd G t (.tup [.int kk, .int z])) := Ex.new ht
        refine ⟨us, x5 D _ h4, sz_lt (by omega), us ++ [.ref t], (x4.trans x5).mut hD, upd_same, by simp; omega, ?_⟩
        rw [hid_upd, hD1]
        exact dps_app (dps_same (ex_hid x5) _ _ hu) (.cons (dp_rowp (hid_at upd_same htD)) .nil)
    · obtain ⟨us, x4, h4, _, hu⟩ := h
      rw [List.length_map, List.length_map, List.take_length] at hu
      exact q D us G (fresh_back x3 hD) (x3.trans x4) h4 (dps_same (hid_same D G) _ _ hu)
theorem ok_hli {f C : Addr} {fd : FuncData} {k : Nat} (F : Fun K "life" "House.life" mLife f fd) (T : HTx K mg C) : FnOk P w K mg base (L2N.CX P w) (k + 1) f fd ["self"] (spHLi C) := by
  refine okN F smLife (fun vs H Q E h => ?_) (fun cdv A outer s H vs Q E hr h => ?_)
  · obtain ⟨p, dW, dK, dL, dR, kvs, kept, fk, lg, bg, liv, run, l, rfl, _⟩ := h
    rfl
  · obtain ⟨p, dW, dK, dL, dR, kvs, kept, fk, lg, bg, liv, run, l, rfl, S, rfl, le, few, q⟩ := h
    refine ⟨_, (pss_cons (ps_fldaug (pv 0) pe_int in_add)
      (pss_cons (ps_dput (hu_of hr) (pe_fld (pv 0) rfl) (pe_fld (pv 0) rfl) pe_non rfl)
      (pss_one (ps_ret (pe_fld (pv 0) rfl))))), ?_⟩
    obtain ⟨dx, hp⟩ := S.ob
    obtain ⟨wp, kp, lp, rp⟩ := S.pne
    obtain ⟨wk, lk, rk⟩ := S.kne
    refine s_seq ⟨_, rfl, p, C, dx, _, _, rfl, hp, T.cl, T.aG, hl_lives_given _ _ _ _ _ _ _ , lg, 1, rfl, rfl, dx, _, hp, by show 7 < 1000; decide, ?_⟩
    rw [hp_lives_given]
    have hp1 : (upd H p (.ins C dx (hfl dW dK fk (lg + 1) bg dL dR))) p = some (.ins C dx (hfl dW dK fk (lg + 1) bg dL dR)) := upd_same
    have keep : ∀ a o, a ≠ p → H a = some o → (upd H p (.ins C dx (hfl dW dK fk (lg + 1) bg dL dR))) a = some o := fun a o n h => by rw [upd_ne n]; exact h
    generalize upd H p (.ins C dx (hfl dW dK fk (lg + 1) bg dL dR)) = H1 at hp1 keep
    dsimp only
    have hL1 := keep _ _ lp S.li
    refine s_seq ⟨_, rfl, p, C, dx, _, _, rfl, hp1, T.cl, T.aL, hl_living _ _ _ _ _ _ _ , _, rfl, p, C, dx, _, _, rfl, hp1, T.cl, T.aG, hl_lives_given _ _ _ _ _ _ _ , dL, _, rfl, DPut.k (k := .inl (lg + 1)) hL1 (sz_lt (by unfold livV; rw [List.length_map]; omega)), ?_⟩
    have new : putK (livV l) (.inl (lg + 1)) .non = livV (l ++ [(lg + 1, none)]) := by
      rw [putK_new _ (liv_none fun r m => by have := le r m; omega)]
      unfold livV
      rw [List.map_append]
      rfl
    rw [new]
    have keep2 : ∀ a o, a ≠ dL → H1 a = some o → (upd H1 dL (.dK (livV (l ++ [(lg + 1, none)])))) a = some o := fun a o n h => by rw [upd_ne n]; exact h
    have hL2 : (upd H1 dL (.dK (livV (l ++ [(lg + 1, none)])))) dL = some (.dK (livV (l ++ [(lg + 1, none)]))) := upd_same
    generalize upd H1 dL (.dK (livV (l ++ [(lg + 1, none)]))) = H2 at keep2 hL2
    have hp2 := keep2 _ _ lp.symm hp1
    exact ⟨_, rfl, p, C, dx, _, _, rfl, hp2, T.cl, T.aG, hl_lives_given _ _ _ _ _ _ _ , q H2 (fun a o n1 n2 h => keep2 a o n2 (keep a o n1 h)) ⟨⟨dx, hp2⟩, keep2 _ _ S.n1 (keep _ _ wp S.wo), keep2 _ _ lk.symm (keep _ _ kp S.ke), hL2, keep2 _ _ S.n3.symm (keep _ _ rp S.ru), S.n1, S.n2, S.n3⟩⟩
theorem ok_hre0 {f C : Addr} {fd : FuncData} {k : Nat} (F : Fun K "readings" "House.readings" mReadings f fd) (N : Names mg) (T : HTx K mg C) : FnOk P w K mg base (L2N.CX P w) (k + 1) f fd ["self"] (spHRe0 C) := by
  refine okN F smReadings (fun vs H Q E h => ?_) (fun cdv A outer s H vs Q E hr h => ?_)
  · obtain ⟨p, dW, dK, dL, dR, kvs, kept, fk, lg, bg, liv, run, rfl, _⟩ := h
    rfl
  · obtain ⟨p, dW, dK, dL, dR, kvs, kept, fk, lg, bg, liv, run, rfl, S, rfl, q⟩ := h
    refine ⟨_, (pss_cons (ps_set (i := 1) smReadings.nd rfl (.inl rfl) (pe_lst pa_nil))
      (pss_cons (ps_for (passes_of rfl) rfl (pi_list (pe_callB (cr_sortedDA rfl) (by rfl) N.sorted boot_sorted (pa_cons (pe_fld (pv 0) rfl) pa_nil))) (pg_name (i := 2) smReadings.nd rfl (.inl rfl)) pss_never)
      (pss_one (ps_ret (pv 1))))), ?_⟩
    refine q_asgL (el_lst ea_nil (by simp)) fun t H1 ht x1 h1 => ?_
    have S1 := S.ex x1
    obtain ⟨dx, hp⟩ := S1.ob
    refine s_seq ⟨_, rfl, p, C, dx, _, _, rfl, hp, T.cl, T.aR, hl_running _ _ _ _ _ _ _ , dR, [], [], rfl, .inl S1.ru, rfl, fun ys r pm pw hr' => ⟨r, rfl, ⟨_, sq_of upd_same⟩, ?_⟩⟩
    have ey : ys = [] := pm.eq_nil
    subst ey
    have x2 : Ex H1 (upd H1 r (.lst (([] : List Int).map V.int))) := Ex.new hr'
    have hr2 : (upd H1 r (.lst (([] : List Int).map V.int))) r = some (.lst []) := upd_same
    generalize upd H1 r (.lst (([] : List Int).map V.int)) = H2 at x2 hr2
    refine for_list (K := K) (a := r) (xs := []) (fun j σ' G => σ' = [some (.ref p), some (.ref t), none, none] ∧ Ex H2 G) ⟨rfl, Ex.refl _⟩ (fun j σ' G _ h => sq_of (h.2 _ _ hr2)) (fun j x σ' G hx _ => by cases hx) (fun σ' G h => ?_)
    obtain ⟨rfl, x3⟩ := h
    exact ⟨_, rfl, q t G ht (x1.trans (x2.trans x3)) (x3 _ _ (x2 _ _ h1))⟩
end
end K13
namespace K13
open PySem L2 PyProof.Rows Tc Evl
/-- the entries from place lo up to place hi, done -/
def spCarryM (K : PySem.W.Frag) : Sp := fun vs H Q _ => ∃ (D l : Addr) (ks : List Int) (kvs : List (Key × V)) (f : Int → Option Int) (ds : List PyData) (lo hi : Nat), vs = [.ref D, .ref l, .int (lo : Int), .int (hi : Int)] ∧ H D = some (.dK kvs) ∧ DI ks kvs f ∧ ks.length ≤ 1000 ∧ LogAt K H l ks ds ∧ lo ≤ hi ∧
  ∀ kvs' H', Bar D H H' → H' D = some (.dK kvs') → DI ks kvs' (appl f (lgD ((ds.drop lo).take (hi - lo)))) → Q .non H'
section
variable {P : Program} {w : World} {K : PySem.W.Frag} {mg : Str → Option Value} {base : Heap}
abbrev sCo : Stmt := topS 41
theorem scCo : FnScope ["entry"] ["entry"] (defScope sCo) := ⟨rfl, rfl, rfl, by decide +kernel, rfl, by decide +kernel, by decide +kernel⟩
theorem ok_chsOf {f : Addr} {fd : FuncData} {k : Nat} (F : Fun K "changes_of" "changes_of" sCo f fd) (N : Names mg) : FnOk P w K mg base CX0 (k + 1) f fd ["entry"] (spChsOf K) := by
  refine F.ok scCo (fun vs H Q E h => ?_) (fun cdv A outer s H vs Q E hr h => ?_)
  · obtain ⟨v, d, ks, rfl, _⟩ := h
    rfl
  · obtain ⟨v, d, ks, rfl, hd, hg, q⟩ := h
    refine ⟨_, (pss_one (ps_ret (pe_ifExp (pt_cmpR op_eq (pe_ix ix_tup (pv 0) pe_int (fun _ _ => rfl)) pe_str (nomark _)) (pe_ix ix_tup (pv 0) pe_int (fun _ _ => rfl)) (pe_tup pa_nil)))), ?_⟩
    rcases en_kind hg with ⟨cs, rfl, _⟩ | ⟨s, i, j, rfl, hs⟩
    · obtain ⟨a, x0, x1, rfl, ht, h0, h1⟩ := dpt2 hd
      cases h0
      cases h1 with
      | tup hq hc =>
        refine s_ret (ev_if (b := true) (et_is (et_test (ev_op (ev_ix0 (ev_var rfl) ht) ev_c (rv_eq rfl))) (by simp)) (fun _ => ev_ix1 (ev_var rfl) ht) fun e => by cases e) fun H1 x1 => q _ _ H1 x1 (Evl.ex_t x1 hq) (dps_same x1 _ _ hc)
    · obtain ⟨a, x0, x1, x2, rfl, ht, h0, h1, h2⟩ := dpt3 hd
      cases h0
      refine (et_is (et_test (ev_op (ev_ix0 (ev_var rfl) ht) ev_c (rv_eq rfl))) (b := false) (by simp [hs])) H (Ex.refl H) _ fun H1 x1 => ?_
      rw [if_neg (by decide)]
      exact ⟨sz_of (by simp), fun p hp => q p [] _ (x1.trans (Ex.new hp)) (st_of upd_same) .nil⟩
abbrev sCa : Stmt := topS 42
theorem scCa : FnScope ["rows", "log", "low", "high", "entry", "change", "key"] ["rows", "log", "low", "high"] (defScope sCa) := ⟨rfl, rfl, rfl, by decide +kernel, rfl, by decide +kernel, by decide +kernel⟩
theorem ok_carry {f : Addr} {fd : FuncData} {kC k : Nat} (F : Fun K "carry" "carry" sCa f fd) (N : Names mg) (dC : Own P w K mg base "changes_of" ["entry"] kC (spChsOf K)) (hC : kC ≤ k) : FnOk P w K mg base CX0 (k + 1) f fd ["rows", "log", "low", "high"] (spCarryM K) := by
  refine F.ok scCa (fun vs H Q E h => ?_) (fun cdv A outer s H vs Q E hr h => ?_)
  · obtain ⟨D, l, ks, kvs, f, ds, lo, hi, rfl, _⟩ := h
    rfl
  · obtain ⟨D, l, ks, kvs, f, ds, lo, hi, rfl, hD, di, hk, hl, h1, q⟩ := h
    refine ⟨_, pss_one (ps_for PassesOwn.never rfl (pi_list (pe_slice sl_list (pv 1) (po_some (pv 2)) (po_some (pv 3)))) (pg_name (i := 4) scCa.nd rfl (.inl rfl)) (pss_one (ps_for PassesOwn.never rfl (pi_tup (pe_own dC hr hC (by rfl) (pa_cons (pv 4) pa_nil))) (pg_name (i := 5) scCa.nd rfl (.inl rfl)) (pss_cons (ps_set (i := 6) scCa.nd rfl (.inl rfl) (pe_ix ix_tup (pv 5) pe_int (fun _ _ => rfl)))
      (pss_one (ps_if (pt_cmpR op_eq (pe_ix ix_tup (pv 5) pe_int (fun _ _ => rfl)) pe_str (nomark _)) (pss_one (ps_dput (hu_of hr) (pv 0) (pv 6) (pe_ix ix_tup (pv 5) pe_int (fun _ _ => rfl)) rfl)) (pss_one (ps_if (pt_cmp (pc_din (hu_of hr) (pv 6) (pv 0))) (pss_one (ps_ddel (pv 0) (pv 6))) pss_nil)))))))), ?_⟩
    obtain ⟨us, hs, hA⟩ := hl.ex
    have hlen := dps_len hA
    have hcut := dps_cutN hA lo (hi - lo)
    generalize hcs : (us.drop lo).take (hi - lo) = cs at hcut
    generalize hes : (ds.drop lo).take (hi - lo) = es at hcut q
    have hge : ∀ d ∈ es, goodEn ks d = true := fun d m => hl.good d (List.mem_of_mem_drop (List.mem_of_mem_take (hes ▸ m)))
    have hcl := dps_len hcut
    refine s_forNL (K := K) (xs := cs) (by
      rw [← hcs, ← cut_nat us lo hi h1]
      exact el_sl (ev_var rfl) (eo_some (ev_var rfl)) (eo_some (ev_var rfl)) hs) (fun p i σ' H' => ∃ y4 y5 y6 kvs', σ' = [some (.ref D), some (.ref l), some (.int lo), some (.int hi), y4, y5, y6] ∧ H p = none ∧ H' p = some (.lst cs) ∧ Bar D H H' ∧ H' D = some (.dK kvs') ∧ DI ks kvs' (appl f (lgD (es.take i)))) ?_ ?_ ?_ ?_
    · exact fun p H1 hp x1 hp1 => ⟨none, none, none, kvs, rfl, hp, hp1, Bar.ex x1, x1 D _ hD, di⟩
    · rintro p i σ' H' _ ⟨y4, y5, y6, kvs', _, _, hp, _⟩
      exact sq_of hp
    · rintro p i x σ' H' hx ⟨y4, y5, y6, kvs', rfl, hp, hp', hb, hD', di'⟩
      have hpD : p ≠ D := fun z => by
        subst z
        rw [hD] at hp
        cases hp
      obtain ⟨d, hd, hxd⟩ := dps_at (dps_bar hD hb _ _ hcut) hx
      have hgd := hge d (List.mem_of_getElem? hd)
      have hi' : i < es.length := (List.getElem?_eq_some_iff.mp hd).1
      have htk : es.take (i + 1) = es.take i ++ [d] := by
        rw [List.take_succ, hd]
        rfl
      refine g_name ?_
      dsimp only
      refine ⟨x, rfl, x, d, ks, rfl, hxd, hgd, fun a vs H1 x1 ha hvs => ⟨a, rfl, ⟨vs, ha⟩, ?_⟩⟩
      have hgc : ∀ c ∈ chsD d, goodCh ks c = true := by
        rcases en_kind hgd with ⟨cs, rfl, h⟩ | ⟨s, i, j, rfl, _⟩
        · exact h
        · exact fun c m => by cases m
      refine for_tup (K := K) (a := a) (xs := vs) (fun j σ2 H2 => ∃ y5 y6 kvs2, σ2 = [some (.ref D), some (.ref l), some (.int lo), some (.int hi), some x, y5, y6] ∧ Bar D H1 H2 ∧ H2 D = some (.dK kvs2) ∧ DI ks kvs2 (appl (appl f (lgD (es.take i))) (((chsD d).map chD).take j))) ⟨y5, y6, kvs', rfl, Bar.refl D H1, x1 D _ hD', di'⟩ ?_ ?_ ?_
      · rintro j σ2 H2 _ ⟨_, _, _, _, b2, _⟩
        exact bar_t (x1 D _ hD') b2 ha
      · rintro j y σ2 H2 hy ⟨z5, z6, kvs2, rfl, b2, hD2, di2⟩
        obtain ⟨c, hc, hyc⟩ := dps_at (dps_bar (x1 D _ hD') b2 _ _ hvs) hy
        have hj : ((chsD d).map chD).take (j + 1) = ((chsD d).map chD).take j ++ [chD c] := by
          rw [List.take_succ, List.getElem?_map, hc]
          rfl
        rw [hj, appl_app]
        have h64 : kvs2.length < sizeLine := sz_lt (by have := di2.len; omega)
        rcases ch_kind (hgc c (List.mem_of_getElem? hc)) with ⟨kk, rfl, mk⟩ | ⟨kk, zz, rfl, mk⟩
        · obtain ⟨pa, u0, u1, rfl, ht, h0, h1⟩ := dpt2 hyc
          cases h0
          cases h1
          refine g_name (s_seq (s_asg (ev_ix1 (ev_var rfl) ht) fun H3 x3 => ?_))
          refine s_if (b := false) (et_is (et_test (ev_op (ev_ix0 (ev_var rfl) (Evl.ex_t x3 ht)) ev_c (rv_eq rfl))) (by decide)) (fun e => by cases e) fun _ H4 x4 => ?_
          have hD4 : H4 D = some (.dK kvs2) := x4 D _ (x3 D _ hD2)
          have b4 : Bar D H1 H4 := b2.trans (Bar.ex (x3.trans x4))
          refine ⟨.int kk, rfl, .ref D, rfl, D, _, rfl, DGet.k (k := .inl kk) hD4, _, rfl, ?_⟩
          cases e : valV kvs2 (Sum.inl kk) with
          | none =>
            have : appl (appl f (lgD (es.take i))) (((chsD d).map chD).take j) kk = none := by
              have := di2.val kk
              rw [e] at this
              exact Option.map_eq_none_iff.mp this.symm
            exact ⟨_, _, kvs2, rfl, b4, hD4, di2.gone this⟩
          | some v =>
            exact ⟨.ref D, rfl, .int kk, rfl, D, kvs2, .inl kk, rfl, hD4, rfl, by rw [e]; rfl, _, _, _, rfl, b4.put, upd_same, di2.drop⟩
        · obtain ⟨pa, u0, u1, u2, rfl, ht, h0, h1, h2⟩ := dpt3 hyc
          cases h0
          cases h1
          cases h2
          refine g_name (s_seq (s_asg (ev_ix1 (ev_var rfl) ht) fun H3 x3 => ?_))
          refine s_if (b := true) (et_is (et_test (ev_op (ev_ix0 (ev_var rfl) (Evl.ex_t x3 ht)) ev_c (rv_eq rfl))) (by decide)) (fun _ H4 x4 => ?_) fun e => by cases e
          have hD4 : H4 D = some (.dK kvs2) := x4 D _ (x3 D _ hD2)
          have b4 : Bar D H1 H4 := b2.trans (Bar.ex (x3.trans x4))
          refine ev_ix2 (ev_var rfl) (Evl.ex_t (x3.trans x4) ht) H4 (Ex.refl H4) _ fun H5 x5 => ⟨.ref D, rfl, .int kk, rfl, D, _, rfl, DPut.k (k := .inl kk) (x5 D _ hD4) h64, ?_⟩
          exact ⟨_, _, _, rfl, (b4.trans (Bar.ex x5)).put, upd_same, di2.put mk⟩
      · rintro σ2 H2 ⟨z5, z6, kvs2, rfl, b2, hD2, di2⟩
        refine ⟨some x, z5, z6, kvs2, rfl, hp, b2 p _ hpD (x1 p _ hp'), hb.trans ((Bar.ex x1).trans b2), hD2, ?_⟩
        rw [htk, lgD_snoc, appl_app]
        rw [dps_len hvs, ← List.length_map (f := chD), List.take_length] at di2
        exact di2
    · rintro p σ' H' ⟨y4, y5, y6, kvs', rfl, _, _, hb, hD', di'⟩
      rw [hcl, List.take_length] at di'
      exact q kvs' H' hb hD' di'
end
/-- changes done in a dict -/
def spDone (K : PySem.W.Frag) : Sp := fun vs H Q _ => ∃ (D q : Addr) (ks : List Int) (kvs : List (Key × V)) (f : Int → Option Int) (us : List V) (cs : List PyData), vs = [.ref D, .ref q] ∧ H D = some (.dK kvs) ∧ DI ks kvs f ∧ ks.length ≤ 1000 ∧ SqT K H q us ∧ DpAll K H us cs ∧ (∀ c ∈ cs, goodCh ks c = true) ∧
  ∀ kvs' H', Bar D H H' → H' D = some (.dK kvs') → DI ks kvs' (appl f (cs.map chD)) → Q .non H'
/-- the rows of a dict, by keys -/
def spPairs (K : PySem.W.Frag) : Sp := fun vs H Q _ => ∃ (D : Addr) (ks : List Int) (kvs : List (Key × V)) (f : Int → Option Int), vs = [.ref D] ∧ H D = some (.dK kvs) ∧ DI ks kvs f ∧ ks.length ≤ 1000 ∧
  ∀ p js H', H p = none → Ex H H' → KeysOf f js → (∀ j ∈ js, j ∈ ks) → TP K H' p (rowsOf f js) → Q (.ref p) H'
section
variable {P : Program} {w : World} {K : PySem.W.Frag} {mg : Str → Option Value} {base : Heap}
abbrev sDone : Stmt := topS 64
theorem scDone : FnScope ["rows", "changes", "change"] ["rows", "changes"] (defScope sDone) := ⟨rfl, rfl, rfl, by decide +kernel, rfl, by decide +kernel, by decide +kernel⟩
theorem ok_done {f : Addr} {fd : FuncData} {k : Nat} (F : Fun K "_law_done" "_law_done" sDone f fd) : FnOk P w K mg base CX0 (k + 1) f fd ["rows", "changes"] (spDone K) := by
  refine F.ok scDone (fun vs H Q E h => ?_) (fun cdv A outer s H vs Q E hr h => ?_)
  · obtain ⟨D, q, ks, kvs, f, us, cs, rfl, _⟩ := h
    rfl
  · obtain ⟨D, qa, ks, kvs, f, us, cs, rfl, hD, di, h64, hq, hA, hg, q⟩ := h
    refine ⟨_, pss_one (ps_for PassesOwn.never rfl (pi_tup (pv 1)) (pg_name (i := 2) scDone.nd rfl (.inl rfl)) (pss_one (ps_if (pt_cmpR op_eq (pe_ix ix_tup (pv 2) pe_int (fun _ _ => rfl)) pe_str (nomark _)) (pss_one (ps_dput (hu_of hr) (pv 0) (pe_ix ix_tup (pv 2) pe_int (fun _ _ => rfl)) (pe_ix ix_tup (pv 2) pe_int (fun _ _ => rfl)) rfl)) (pss_one (ps_expr (pe_dpop2 (pv 0) (pe_ix ix_tup (pv 2) pe_int (fun _ _ => rfl)) pe_non ⟨rfl, rfl, rfl, rfl⟩)))))), ?_⟩
    refine ⟨.ref qa, rfl, qa, rfl, ⟨us, hq⟩, ?_⟩
    refine for_tup (K := K) (a := qa) (xs := us) (fun j σ2 H2 => ∃ y2 kvs2, σ2 = [some (.ref D), some (.ref qa), y2] ∧ Bar D H H2 ∧ H2 D = some (.dK kvs2) ∧ DI ks kvs2 (appl f ((cs.map chD).take j))) ⟨none, kvs, rfl, Bar.refl D H, hD, di⟩ ?_ ?_ ?_
    · rintro j σ2 H2 _ ⟨_, _, _, b2, _⟩
      exact bar_t hD b2 hq
    · rintro j y σ2 H2 hy ⟨y2, kvs2, rfl, b2, hD2, di2⟩
      obtain ⟨c, hc, hyc⟩ := dps_at (dps_bar hD b2 _ _ hA) hy
      have hj : (cs.map chD).take (j + 1) = (cs.map chD).take j ++ [chD c] := by
        rw [List.take_succ, List.getElem?_map, hc]
        rfl
      rw [hj, appl_app]
      have hz : kvs2.length < sizeLine := sz_lt (by have := di2.len; omega)
      rcases ch_kind (hg c (List.mem_of_getElem? hc)) with ⟨kk, rfl, mk⟩ | ⟨kk, zz, rfl, mk⟩
      · obtain ⟨pa, u0, u1, rfl, ht, h0, h1⟩ := dpt2 hyc
        cases h0
        cases h1
        refine g_name (s_if (b := false) (et_is (et_test (ev_op (ev_ix0 (ev_var rfl) ht) ev_c (rv_eq rfl))) (by decide)) (fun e => by cases e) fun _ H4 x4 => ?_)
        have hD4 := x4 D _ hD2
        refine ⟨.ref D, rfl, D, rfl, .inl ⟨kvs2, .inl hD4⟩, ev_ix1 (ev_var rfl) (Evl.ex_t x4 ht) H4 (Ex.refl H4) _ fun H5 x5 => ⟨kvs2, .inl kk, x5 D _ hD4, rfl, fun v hv => ⟨_, _, rfl, (b2.trans (Bar.ex (x4.trans x5))).put, upd_same, di2.drop⟩, fun hv => ⟨_, _, rfl, b2.trans (Bar.ex (x4.trans x5)), x5 D _ hD4, di2.gone ?_⟩⟩⟩
        rw [di2.val] at hv
        exact Option.map_eq_none_iff.mp hv
      · obtain ⟨pa, u0, u1, u2, rfl, ht, h0, h1, h2⟩ := dpt3 hyc
        cases h0
        cases h1
        cases h2
        refine g_name (s_if (b := true) (et_is (et_test (ev_op (ev_ix0 (ev_var rfl) ht) ev_c (rv_eq rfl))) (by decide)) (fun _ H4 x4 => ?_) fun e => by cases e)
        have hD4 := x4 D _ hD2
        refine ev_ix2 (ev_var rfl) (Evl.ex_t x4 ht) H4 (Ex.refl H4) _ fun H5 x5 => ⟨.ref D, rfl, ev_ix1 (ev_var rfl) (Evl.ex_t (x4.trans x5) ht) H5 (Ex.refl H5) _ fun H6 x6 => ⟨D, _, rfl, DPut.k (k := .inl kk) (x6 D _ (x5 D _ hD4)) hz, ?_⟩⟩
        exact ⟨_, _, rfl, (b2.trans (Bar.ex ((x4.trans x5).trans x6))).put, upd_same, di2.put mk⟩
    · rintro σ2 H2 ⟨y2, kvs2, rfl, b2, hD2, di2⟩
      rw [dps_len hA, ← List.length_map (f := chD), List.take_length] at di2
      exact q kvs2 H2 b2 hD2 di2
abbrev sPairs : Stmt := topS 65
theorem scPairs : FnScope ["rows", "key"] ["rows"] (defScope sPairs) := ⟨rfl, rfl, rfl, by decide +kernel, rfl, by decide +kernel, by decide +kernel⟩
theorem ok_pairs {f : Addr} {fd : FuncData} {k : Nat} (F : Fun K "_law_pairs" "_law_pairs" sPairs f fd) (N : Names mg) : FnOk P w K mg base CX0 (k + 1) f fd ["rows"] (spPairs K) := by
  refine F.ok scPairs (fun vs H Q E h => ?_) (fun cdv A outer s H vs Q E hr h => ?_)
  · obtain ⟨D, ks, kvs, f, rfl, _⟩ := h
    rfl
  · obtain ⟨D, ks, kvs, f, rfl, hD2, di, h64, q⟩ := h
    refine ⟨_, pss_one (ps_ret (pe_callTy cr_tupP (by rfl) N.tuple boot_tuple (pa_cons (pe_lc (own := [("key", 1)]) (g := gName 1) (tt := tYes) (te := tTup (tCons (tVar 1) (tCons (tDGet (tVar 0) (tVar 1)) tNil))) rfl scPairs.nd (pi_list (pe_callB (cr_sortedDA rfl) (by rfl) N.sorted boot_sorted (pa_cons (pv 0) pa_nil))) (blkOk_by (N := ["rows", "key"]) (sc := defScope sPairs) (by decide +kernel)) (fun _ _ _ _ _ => pg_name (i := 1) scPairs.nd rfl (Or.inl rfl)) (fun _ _ _ _ _ => pts_nil) (fun _ _ _ _ _ => (pe_tup (pa_cons (pv 1) (pa_cons (pe_dget (hu_of hr) (pv 0) (pv 1) (fun _ _ => rfl)) pa_nil))))) pa_nil))), ?_⟩
    obtain ⟨js0, hks, nd, mem, hlen⟩ := di.keys
    refine ⟨.ref D, rfl, D, kvs, js0, rfl, .inl hD2, hks, fun ys p pm pw hp => ⟨p, rfl, ⟨_, sq_of upd_same⟩, fun D2 hD3 => ?_⟩⟩
    have ndy : ys.Nodup := pm.nodup_iff.mpr nd
    have kf : KeysOf f ys := ⟨lt_of_le_nodup pw ndy, fun k => (pm.mem_iff).trans (mem k)⟩
    have x3 : Ex H (upd H p (.lst (ys.map V.int))) := Ex.new hp
    generalize hH3 : upd H p (.lst (ys.map V.int)) = H3 at x3 hD3
    have hp3 : H3 p = some (.lst (ys.map V.int)) := by rw [← hH3]; exact upd_same
    refine lc_list (K := K) (a := p) (xs := ys.map V.int) (fun i H' => ∃ vs, Ex H3 H' ∧ H' D2 = some (.lst vs) ∧ vs.length = i ∧ DpAll K (hid D2 H') vs ((rowsOf f (ys.take i)).map Tc.pairD)) ⟨[], Ex.new hD3, upd_same, rfl, .nil⟩ (fun i H' _ h => ?_) (fun i x H' hx h => ⟨rfl, ?_⟩) (fun H' h => ?_)
    · obtain ⟨vs, x4, _⟩ := h
      exact sq_of (x4 p _ hp3)
    · obtain ⟨vs, x4, h4, hvl, hv⟩ := h
      rw [List.getElem?_map] at hx
      obtain ⟨kk, hkk, rfl⟩ := Option.map_eq_some_iff.mp hx
      have hm := (kf.2 kk).mp (List.mem_of_getElem? hkk)
      obtain ⟨ww, hww⟩ := Option.isSome_iff_exists.mp hm
      have hval : valV kvs (.inl kk) = some (.int ww) := by rw [di.val, hww]; rfl
      have hi : i < ys.length := (List.getElem?_eq_some_iff.mp hkk).1
      have hyl : ys.length = js0.length := pm.length_eq
      refine iteT (B := ∃ vs, Ex H3 H' ∧ H' D2 = some (.lst vs) ∧ vs.length = i + 1 ∧ DpAll K (hid D2 H') vs ((rowsOf f (ys.take (i + 1))).map Tc.pairD)) ?_
      refine ⟨.int kk, rfl, .ref D, rfl, .int kk, rfl, D, .int ww, rfl, by rw [← hval]; exact DGet.k (k := .inl kk) (x4 D _ (x3 D _ hD2)), sz_of (by simp), fun t ht => ?_⟩
      have htD : t ≠ D2 := fun z => by
        subst z
        rw [h4] at ht
        cases ht
      have x5 : Ex H' (upd H' t (.tup [.int kk, .int ww])) := Ex.new ht
      refine ⟨vs, x5 D2 _ h4, sz_lt (by omega), vs ++ [.ref t], (x4.trans x5).mut hD3, upd_same, by simp [hvl], ?_⟩
      rw [hid_upd, List.take_succ, hkk]
      unfold rowsOf
      rw [List.map_append, List.map_append]
      refine dps_app (dps_same (ex_hid x5) _ _ hv) (.cons ?_ .nil)
      show Dp K _ (.ref t) (.tuple [.int kk, .int ((f kk).getD 0)])
      rw [hww]
      exact .tup (st_of (hid_at upd_same htD)) (.cons (.int kk) (.cons (.int ww) .nil))
    · obtain ⟨vs, x4, h4, _, hv⟩ := h
      rw [List.length_map, List.take_length] at hv
      refine ⟨D2, vs, rfl, sq_of h4, fun t o ht od => ?_⟩
      have xA : Ex H (upd H' t (.frz o (.tup vs))) := (x3.trans x4).trans (Ex.new ht)
      have tn : H t = none := by
        cases e : H t with
        | none => rfl
        | some u =>
          have := ((x3.trans x4) t u e).symm.trans ht
          cases this
      refine q t ys _ tn xA kf (fun j m => ?_) ⟨vs, ⟨o, upd_same, od⟩, dps_same (Ex.new ht) _ _ (dps_same (hid_same D2 H') _ _ hv)⟩
      have := (kf.2 j).mp m
      rw [← (mem j)] at this
      have h2 : (Sum.inl j : Key) ∈ kvs.map (·.1) := hks ▸ List.mem_map.mpr ⟨j, this, rfl⟩
      obtain ⟨pp, hp1, hp2⟩ := List.mem_map.mp h2
      obtain ⟨kk, hk1, hk2⟩ := di.inn pp hp1
      cases (hp2.symm.trans hk2 : (Sum.inl j : Key) = Sum.inl kk)
      exact hk1
end
end K13
/-! tuples stay -/
namespace Tc
open PySem L2 Evl
def Kt (H H' : Hp) : Prop := ∀ a u, (∃ xs, u = .tup xs ∨ ∃ o, u = .frz o (.tup xs)) → H a = some u → H' a = some u
theorem Kt.ex {H H' : Hp} (x : Ex H H') : Kt H H' := fun a u _ h => x a u h
theorem Kt.trans {H H1 H2 : Hp} (x : Kt H H1) (y : Kt H1 H2) : Kt H H2 := fun a u k h => y a u k (x a u k h)
section
variable {K : PySem.W.Frag} {H H' : Hp}
theorem Kt.t {a : Addr} {xs : List V} (e : Kt H H') (h : SqT K H a xs) : SqT K H' a xs := by
  rcases h with (h | ⟨o, h⟩) | h
  · exact .inl (.inl (e a _ ⟨xs, .inl rfl⟩ h))
  · exact .inl (.inr ⟨o, e a _ ⟨xs, .inr ⟨o, rfl⟩⟩ h⟩)
  · exact .inr h
theorem Kt.dp (e : Kt H H') : ∀ (n : Nat) (d : PyData) (v : V), nl n d = true → Dp K H v d → Dp K H' v d
  | 0, d, v, g, h => by
    cases h with
    | non => exact .non
    | bl b => exact .bl b
    | int i => exact .int i
    | str x => exact .str x
    | lst => cases g
    | tup => cases g
  | n + 1, d, v, g, h => by
    cases h with
    | non => exact .non
    | bl b => exact .bl b
    | int i => exact .int i
    | str x => exact .str x
    | lst => cases g
    | tup hs r => exact .tup (e.t hs) (dps_each (fun d m v => Kt.dp e n d v (List.all_eq_true.mp g d m)) r)
theorem Kt.dps (e : Kt H H') {n : Nat} {ds : List PyData} {vs : List V} (g : ∀ d ∈ ds, nl n d = true) (h : DpAll K H vs ds) : DpAll K H' vs ds := dps_each (fun d m v => e.dp n d v (g d m)) h
theorem Kt.tp (e : Kt H H') {p : Addr} {rs : List (Int × Int)} (h : TP K H p rs) : TP K H' p rs := by
  obtain ⟨xs, ⟨o, h1, h2⟩, h3⟩ := h
  refine ⟨xs, ⟨o, e _ _ ⟨xs, .inr ⟨o, rfl⟩⟩ h1, h2⟩, e.dps (n := 1) (fun d m => ?_) h3⟩
  obtain ⟨r, _, rfl⟩ := List.mem_map.mp m
  rfl
end
theorem Kt.fr {b : Addr} {H H' : Hp} (hB : Bag H b) (f : Fr b H H') : Kt H H' := fun a u k h => f.at h fun z => by
  obtain ⟨x, y, hb, _⟩ := hB
  rw [z, hb] at h
  obtain ⟨xs, rfl | ⟨o, rfl⟩⟩ := k <;> cases h
theorem Kt.barL {e : Addr} {H H' : Hp} {bs : List V} (hb : H e = some (.lst bs)) (x : Bar e H H') : Kt H H' := fun a u k h => x a u (fun z => by
  subst z
  rw [hb] at h
  obtain ⟨xs, rfl | ⟨o, rfl⟩⟩ := k <;> cases h) h
theorem Kt.barD {e : Addr} {H H' : Hp} {kvs : List (Key × V)} (hb : H e = some (.dK kvs)) (x : Bar e H H') : Kt H H' := fun a u k h => x a u (fun z => by
  subst z
  rw [hb] at h
  obtain ⟨xs, rfl | ⟨o, rfl⟩⟩ := k <;> cases h) h
/-- all but what is no tuple -/
theorem Kt.but {H H' : Hp} (P : Addr → Prop) (h : ∀ a, P a → ∃ o, H a = some o ∧ (∀ xs, o ≠ .tup xs) ∧ ∀ o' xs, o ≠ .frz o' (.tup xs)) (e : ∀ a o, ¬ P a → H a = some o → H' a = some o) : Kt H H' := fun a u k ha => by
  refine e a u (fun z => ?_) ha
  obtain ⟨o, ho, n1, n2⟩ := h a z
  rw [ha] at ho
  obtain ⟨xs, rfl | ⟨o', rfl⟩⟩ := k
  · exact n1 xs (Option.some.inj ho).symm
  · exact n2 o' xs (Option.some.inj ho).symm
section
variable {C : Addr} {H H' : Hp} {p dW dK dL dR : Addr} {kvs : List (Key × V)} {kept : List V} {fk lg bg : Int} {liv run : List (Key × V)}
theorem HsAt.kt (S : HsAt C H p dW dK dL dR kvs kept fk lg bg liv run) (e : ∀ a o, a ≠ p → a ≠ dW → a ≠ dK → a ≠ dL → a ≠ dR → H a = some o → H' a = some o) : Kt H H' := by
  refine Kt.but (fun a => a = p ∨ a = dW ∨ a = dK ∨ a = dL ∨ a = dR) (fun a z => ?_) fun a o z h => e a o (fun y => z (.inl y)) (fun y => z (.inr (.inl y))) (fun y => z (.inr (.inr (.inl y)))) (fun y => z (.inr (.inr (.inr (.inl y))))) (fun y => z (.inr (.inr (.inr (.inr y))))) h
  obtain ⟨dx, hp⟩ := S.ob
  rcases z with rfl | rfl | rfl | rfl | rfl
  · exact ⟨_, hp, (fun xs z => by cases z), fun o xs z => by cases z⟩
  · exact ⟨_, S.wo, (fun xs z => by cases z), fun o xs z => by cases z⟩
  · exact ⟨_, S.ke, (fun xs z => by cases z), fun o xs z => by cases z⟩
  · exact ⟨_, S.li, (fun xs z => by cases z), fun o xs z => by cases z⟩
  · exact ⟨_, S.ru, (fun xs z => by cases z), fun o xs z => by cases z⟩
end
theorem ev_fl {K : PySem.W.Frag} {σ : L2.St} {H : Hp} {C p dx : Addr} {fs : List (Str × V)} {f : Str} {v : V} {i : Nat} (hp : H p = some (.ins C dx fs)) (hl : fs.lookup f = some v) (c : Cls K C) (na : NoAttr K C f) (hi : σ[i]? = some (some (.ref p))) : Ev (tFld K (tVar i) f) σ H v := fun H1 e Q q => ⟨.ref p, hi, p, C, dx, fs, v, rfl, e _ _ hp, c, na, hl, q H1 (Ex.refl H1)⟩
/-- two dicts of one table are as long -/
theorem DI.same_len {ks ks' : List Int} {a b : List (Key × V)} {f : Int → Option Int} (h : DI ks a f) (h' : DI ks' b f) : a.length = b.length := by
  obtain ⟨js, e, nd, mem, _⟩ := h.keys
  obtain ⟨js', e', nd', mem', _⟩ := h'.keys
  have l1 : a.length = js.length := by have := congrArg List.length e; rw [List.length_map, List.length_map] at this; exact this
  have l2 : b.length = js'.length := by have := congrArg List.length e'; rw [List.length_map, List.length_map] at this; exact this
  have p : js.Perm js' := (List.perm_ext_iff_of_nodup nd nd').mpr fun k => (mem k).trans (mem' k).symm
  rw [l1, l2, p.length_eq]
/-- a house's table and log: the program's own way -/
theorem nl_up : ∀ (n : Nat) (d : PyData), nl n d = true → nl (n + 1) d = true
  | 0, .none, _ => rfl
  | 0, .bool _, _ => rfl
  | 0, .int _, _ => rfl
  | 0, .str _, _ => rfl
  | 0, .list _, h => by cases h
  | 0, .tuple _, h => by cases h
  | 0, .dict _, _ => rfl
  | n + 1, .none, _ => rfl
  | n + 1, .bool _, _ => rfl
  | n + 1, .int _, _ => rfl
  | n + 1, .str _, _ => rfl
  | n + 1, .list _, h => by cases h
  | n + 1, .dict _, _ => rfl
  | n + 1, .tuple ds, h => List.all_eq_true.mpr fun d m => nl_up n d (List.all_eq_true.mp h d m)
end Tc
namespace K13
open PySem L2 PyProof.Rows Tc Evl
abbrev mChange : Stmt := inClass sHouse 2
theorem smChange : FnScope ["self", "changes", "entry", "worths"] ["self", "changes"] (defScope mChange) := ⟨rfl, rfl, rfl, by decide +kernel, rfl, by decide +kernel, by decide +kernel⟩
/-- the changes of a group -/
def grD : PyData → List (Int × Option Int)
  | .tuple cs => cs.map chD
  | _ => []
theorem ch_good {c : PyData} (h : isCh c = true) : goodCh allK c = true := by
  have str : ∀ {s d}, eqS s d = true → d = .str s := fun {s d} e => by
    cases d with
    | str z => rw [of_decide_eq_true (show decide (z = s) = true from e)]
    | _ => cases e
  have key : ∀ {d}, isKey d = true → ∃ i : Int, d = .int i ∧ 0 ≤ i ∧ i < 1000 := fun {d} e => by
    cases d with
    | int i =>
      have p : (decide (0 ≤ i) && decide (i < 1000)) = true := e
      rw [Bool.and_eq_true, decide_eq_true_eq, decide_eq_true_eq] at p
      exact ⟨i, rfl, p.1, p.2⟩
    | _ => cases e
  unfold isCh at h
  split at h
  · rename_i s k
    rw [Bool.and_eq_true] at h
    obtain ⟨i, rfl, h0, h1⟩ := key h.2
    rw [str h.1]
    exact gq_drop (allK_mem h0 h1)
  · rename_i s k z
    rw [Bool.and_eq_true, Bool.and_eq_true] at h
    obtain ⟨i, rfl, h0, h1⟩ := key h.2.1
    obtain ⟨j, rfl, h2, h3⟩ := key h.2.2
    rw [str h.1]
    exact gq_put (allK_mem h0 h1) ⟨h2, h3⟩
  · cases h
theorem gr_good {d : PyData} (h : isGr d = true) : ∃ cs, d = .tuple cs ∧ (∀ c ∈ cs, goodCh allK c = true) ∧ cs.length ≤ 6 := by
  cases d with
  | tuple cs =>
    have h' : ((decide (1 ≤ (cs.length : Int)) && decide ((cs.length : Int) ≤ 6)) && cs.all isCh) = true := h
    rw [Bool.and_eq_true, Bool.and_eq_true, decide_eq_true_eq, decide_eq_true_eq, List.all_eq_true] at h'
    exact ⟨cs, rfl, fun c m => ch_good (h'.2 c m), by omega⟩
  | _ => cases h
theorem nl_gr {d : PyData} (h : isGr d = true) : nl 2 d = true := by
  obtain ⟨cs, rfl, hc, _⟩ := gr_good h
  exact List.all_eq_true.mpr fun c m => nl_ch (hc c m)
/-- a group done, or refused -/
def spHCh (K : PySem.W.Frag) (C CN CM : Addr) : Sp := fun vs H Q E => ∃ (p dW dK dL dR : Addr) (kvs : List (Key × V)) (kept : List V) (fk lg bg : Int) (liv run : List (Key × V)) (f : Int → Option Int) (v : V) (d : PyData), vs = [.ref p, v] ∧ HsAt C H p dW dK dL dR kvs kept fk lg bg liv run ∧ DI allK kvs f ∧ Dp K H v d ∧ kept.length ≤ 10000 ∧
  (isGr d = false → ∀ H', Ex H H' → E (.ref CN) none H') ∧
  (isGr d = true → ∀ kvs', DI allK kvs' (appl f (grD d)) → 100 < kvs'.length → ∀ b H', H b = none → Ex H H' → H' b = some (.xd [("many", .int (kvs'.length : Int))]) → E (.ref CM) (some b) H') ∧
  (isGr d = true → ∀ dW' e kvs' H', H dW' = none → (∀ a o, a ≠ p → a ≠ dK → H a = some o → H' a = some o) → HsAt C H' p dW' dK dL dR kvs' (kept ++ [.ref e]) fk lg bg liv run → DI allK kvs' (appl f (grD d)) → kvs'.length ≤ 100 → Dp K H' (.ref e) (.tuple [.str "group", d]) → Q .non H')
section
variable {P : Program} {w : World} {K : PySem.W.Frag} {mg : Str → Option Value} {base : Heap}
set_option maxHeartbeats 1000000 in
theorem ok_hch {f C CN CM : Addr} {fd : FuncData} {bm : List Value} {kG kC kM k : Nat} (F : Fun K "change" "House.change" mChange f fd) (N : Names mg) (T : HTx K mg C) (F0 : ExcBaseFacts "ValueError" "ValueError.__new__" "ValueError.__init__" bm) (dE : OwnE0 K mg "NoChange" CN bm) (dG : Own P w K mg base "is_group" ["thing"] kG (spTold K isGr)) (hG : kG ≤ k) (dC : Own P w K mg base "carry" ["rows", "log", "low", "high"] kC (spCarryM K)) (hC : kC ≤ k) (dM : OwnE P w K mg base "TooMany" CM ["self", "many"] kM (spX1 CM "many")) (hM : kM + 1 ≤ k) :
    FnOk P w K mg base (L2N.CX P w) (k + 1) f fd ["self", "changes"] (spHCh K C CN CM) := by
  refine okN F smChange (fun vs H Q E h => ?_) (fun cdv A outer s H vs Q E hr h => ?_)
  · obtain ⟨p, dW, dK, dL, dR, kvs, kept, fk, lg, bg, liv, run, f, v, d, rfl, _⟩ := h
    rfl
  · obtain ⟨p, dW, dK, dL, dR, kvs, kept, fk, lg, bg, liv, run, f, v, d, rfl, S, di, hd, few, q1, q2, q3⟩ := h
    obtain ⟨tMR, hMR⟩ := N.MOST_ROWS
    refine ⟨_, (pss_cons (ps_if (pt_not (pt_val (pe_own dG hr hG (by rfl) (pa_cons (pv 1) pa_nil)))) (pss_one (ps_raise0 F0 dE rfl (L2N.takes_of rfl rfl rfl rfl) (by rfl))) pss_nil)
      (pss_cons (ps_set (i := 2) smChange.nd rfl (.inl rfl) (pe_tup (pa_cons pe_str (pa_cons (pv 1) pa_nil))))
      (pss_cons (ps_set (i := 3) smChange.nd rfl (.inl rfl) (pe_callTy call_dictD (by rfl) N.dict boot_dict (pa_cons (pe_fld (pv 0) rfl) pa_nil)))
      (pss_cons (ps_expr (pe_own dC hr hC (by rfl) (pa_cons (pv 3) (pa_cons (pe_lst (pa_cons (pv 2) pa_nil)) (pa_cons pe_int (pa_cons pe_int pa_nil))))))
      (pss_cons (ps_if (pt_cmpR op_gt (pe_callB call_lenD (by rfl) N.len PySem.boot_len (pa_cons (pv 3) pa_nil)) (pe_glob (v := .int 100) (by rfl) hMR ⟨_, rfl⟩) (nomark _)) (pss_one (ps_raiseE dM rfl (L2N.takes_of rfl rfl rfl rfl) hr hM (by rfl) (pa_cons (pe_callB call_lenD (by rfl) N.len PySem.boot_len (pa_cons (pv 3) pa_nil)) pa_nil))) pss_nil)
      (pss_cons (ps_fld (pv 0) (pv 3) rfl)
      (pss_one (ps_expr (pe_bm PySem.F.plainAttrs_list PySem.F.slot_list_append PySem.F.type_list_append mt_append (pe_fld (pv 0) rfl) (pa_cons (pv 2) pa_nil)))))))))), ?_⟩
    refine s_seq (s_if (b := !isGr d) (et_not (et_B (ev_told (ev_var rfl) hd))) (fun z H1 x1 => ?_) fun z H1 x1 => s_next ?_)
    · exact q1 (by cases e : isGr d with | true => rw [e] at z; cases z | false => rfl) H1 x1
    have hg : isGr d = true := by cases e : isGr d with | true => rfl | false => rw [e] at z; cases z
    replace q2 := q2 hg
    replace q3 := q3 hg
    obtain ⟨cs, rfl, gc, c6⟩ := gr_good hg
    dsimp only
    refine q_asgU (eu_tup (ea_cons ev_c (ea_cons (ev_var rfl) ea_nil)) (by simp)) fun e H2 ne x2 he => ?_
    have x12 := x1.trans x2
    have S2 := S.ex x12
    obtain ⟨dx, hp⟩ := S2.ob
    refine s_seq ⟨_, rfl, p, C, dx, _, _, rfl, hp, T.cl, T.aW, hl_worths _ _ _ _ _ _ _ , dW, kvs, rfl, .inl S2.wo, fun dW' nW => ?_⟩
    have x3 : Ex H2 (upd H2 dW' (.dK kvs)) := Ex.new nW
    have hW : (upd H2 dW' (.dK kvs)) dW' = some (.dK kvs) := upd_same
    have freeW : H dW' = none := fresh_back x12 nW
    generalize upd H2 dW' (.dK kvs) = H3 at x3 hW
    refine g_name ?_
    dsimp only
    have x13 := x12.trans x3
    have he3 := x3 _ _ he
    have hd3 := dp_same x13 _ _ hd
    refine s_seq ⟨.ref dW', rfl, .ref e, rfl, sz_of (by simp), fun l nl' => ?_⟩
    have x4 : Ex H3 (upd H3 l (.lst [.ref e])) := Ex.new nl'
    have hl : (upd H3 l (.lst [.ref e])) l = some (.lst [.ref e]) := upd_same
    generalize upd H3 l (.lst [.ref e]) = H4 at x4 hl
    have hde : Dp K H4 (.ref e) (.tuple [.str "group", .tuple cs]) := .tup (st_of (x4 _ _ he3)) (.cons (.str _) (.cons (dp_same x4 _ _ hd3) .nil))
    have gE : goodEn allK (.tuple [.str "group", .tuple cs]) = true := gq_group gc
    refine ⟨dW', l, allK, kvs, f, [.tuple [.str "group", .tuple cs]], 0, 1, rfl, x4 _ _ hW, di, by rw [allK_len]; omega, ⟨⟨_, sq_of hl, .cons hde .nil⟩, fun d m => by rcases List.mem_singleton.mp m with rfl; exact gE⟩, by omega, fun kvs' H5 b5 h5 di5 => ?_⟩
    have di' : DI allK kvs' (appl f (grD (.tuple cs))) := by
      have e1 : lgD ((([PyData.tuple [.str "group", .tuple cs]] : List PyData).drop 0).take (1 - 0)) = grD (.tuple cs) := by
        show [PyData.tuple [.str "group", .tuple cs]].flatMap enD = _
        rw [List.flatMap_cons, List.flatMap_nil, List.append_nil]
        rfl
      rw [e1] at di5
      exact di5
    dsimp only
    have x14 := x13.trans x4
    have x15 : Ex H H5 := fun a o h => b5 a o (ne_of_none h freeW) (x14 a o h)
    have lz : EvT (tTest (tOp (rI0 fun i j => .bl (decide (i > j))) (tCB (fun xs H Q => ∃ a kvs, xs = [V.ref a] ∧ H a = some (.dK kvs) ∧ Q (.int kvs.length) H) (tCons (tVar 3) tNil)) (tC (.int 100)))) [some (.ref p), some v, some (.ref e), some (.ref dW')] H5 (decide ((kvs'.length : Int) > 100)) := et_test (ev_op (ev_cb (ea_cons (ev_var rfl) ea_nil) fun G xG Q' q' => ⟨dW', kvs', rfl, xG _ _ h5, q' G (Ex.refl G)⟩) ev_c rv_I0)
    refine s_seq (s_if lz (fun z H6 x6 => ?_) fun z H6 x6 => s_next ?_)
    · have big : 100 < kvs'.length := by
        have := of_decide_eq_true z
        omega
      have x16 := x15.trans x6
      refine ⟨.ref dW', rfl, dW', kvs', rfl, x6 _ _ h5, by simp, fun a na => ⟨a, (kvs'.length : Int), rfl, upd_same, ?_, fun b H7 hb da h7 h8 keep => ⟨rfl, b, _, h7, h8, ?_, ?_⟩⟩⟩
      · exact Tc.log_small (c := 0) (by decide) (by have := di'.len; rw [allK_len] at this; omega)
      · rw [upd_ne da] at hb
        exact hb
      · rw [upd_ne da] at hb
        refine q2 kvs' di' big b _ (fresh_back x16 hb) (fun c o hc => ?_) upd_same
        have hc1 := x16 c o hc
        have ca := ne_of_none hc1 na
        exact (upd_ne (ne_of_none hc1 hb)).trans ((del_ne ca).trans (keep c o ca ((upd_ne ca).trans hc1)))
    · have small : kvs'.length ≤ 100 := by
        have := of_decide_eq_false z
        omega
      have x16 := x15.trans x6
      have S6 := S.ex x16
      obtain ⟨wp, kp, lp, rp⟩ := S6.pne
      obtain ⟨wk, lk, rk⟩ := S6.kne
      obtain ⟨dx6, hp6⟩ := S6.ob
      have h6W := x6 _ _ h5
      have nW6 : ∀ a o, H a = some o → a ≠ dW' := fun a o h => ne_of_none h freeW
      dsimp only
      refine s_seq ⟨.ref dW', rfl, .ref p, rfl, p, C, dx6, _, rfl, hp6, T.cl, T.aW, by show 7 < 1000; decide, ?_⟩
      rw [hp_worths]
      have hp7 : (upd H6 p (.ins C dx6 (hfl dW' dK fk lg bg dL dR))) p = some (.ins C dx6 (hfl dW' dK fk lg bg dL dR)) := upd_same
      have k7 : ∀ a o, a ≠ p → H6 a = some o → (upd H6 p (.ins C dx6 (hfl dW' dK fk lg bg dL dR))) a = some o := fun a o n h => by rw [upd_ne n]; exact h
      have Wp : dW' ≠ p := fun z => by
        rw [z, hp6] at h6W
        cases h6W
      have WK : dW' ≠ dK := fun z => by
        rw [z, S6.ke] at h6W
        cases h6W
      have WL : dW' ≠ dL := fun z => nW6 _ _ S.li z.symm
      have WR : dW' ≠ dR := fun z => nW6 _ _ S.ru z.symm
      generalize upd H6 p (.ins C dx6 (hfl dW' dK fk lg bg dL dR)) = H7 at hp7 k7
      dsimp only
      have hK7 := k7 _ _ kp S6.ke
      refine s_app (l := dK) hK7 (ev_fl hp7 (hl_kept _ _ _ _ _ _ _ ) T.cl T.aK rfl) (ev_var rfl) (by omega) fun H7b x7b => ?_
      have hp7 := x7b _ _ hp7
      have k7 : ∀ a o, a ≠ p → H6 a = some o → H7b a = some o := fun a o n h => x7b _ _ (k7 a o n h)
      clear x7b hK7
      generalize H7b = H7 at hp7 k7 ⊢
      have k8 : ∀ a o, a ≠ dK → H7 a = some o → (upd H7 dK (.lst (kept ++ [.ref e]))) a = some o := fun a o n h => by rw [upd_ne n]; exact h
      have hK8 : (upd H7 dK (.lst (kept ++ [.ref e]))) dK = some (.lst (kept ++ [.ref e])) := upd_same
      generalize upd H7 dK (.lst (kept ++ [.ref e])) = H8 at k8 hK8
      have off : ∀ a o, a ≠ p → a ≠ dK → H6 a = some o → H8 a = some o := fun a o n1 n2 h => k8 a o n2 (k7 a o n1 h)
      refine q3 dW' e kvs' H8 freeW (fun a o n1 n2 h => off a o n1 n2 (x16 a o h)) ⟨⟨dx6, k8 _ _ kp.symm hp7⟩, off _ _ Wp WK h6W, hK8, off _ _ lp lk S6.li, off _ _ rp rk S6.ru, WL, WR, S.n3⟩ di' small ?_
      have kt : Kt H4 H8 := by
        refine Kt.but (fun a => a = dW' ∨ a = p ∨ a = dK) (fun a z => ?_) fun a o z h => off a o (fun y => z (.inr (.inl y))) (fun y => z (.inr (.inr y))) (x6 _ _ (b5 a o (fun y => z (.inl y)) h))
        have S4 := S.ex x14
        obtain ⟨dx4, hp4⟩ := S4.ob
        rcases z with rfl | rfl | rfl
        · exact ⟨_, x4 _ _ hW, (fun xs z => by cases z), fun o xs z => by cases z⟩
        · exact ⟨_, hp4, (fun xs z => by cases z), fun o xs z => by cases z⟩
        · exact ⟨_, S4.ke, (fun xs z => by cases z), fun o xs z => by cases z⟩
      refine kt.dp 3 _ _ ?_ hde
      show (true && (nl 2 (.tuple cs) && true)) = true
      rw [nl_gr hg]
      rfl
end
end K13
/-! a caught exception asked for its classes; which field it has -/
namespace Tc
open PySem L2 L2H PyProof.Rows Evl
/-- a rule that is wanted on one way alone -/
def tXc (c : Prop) (te : TE) : TE := fun σ H Q => c ∧ te σ H Q
theorem pe_c {X : Cx} {e : Expr} {te : TE} {c : Prop} (h : c → PE X e te) : PE X e (tXc c te) := ⟨fun pins s σ H Q I w => (h w.1).run pins s σ H Q I w.2⟩
/-- names of classes, and whether D is one of them -/
inductive ClsAt (X : Cx) (D : Addr) : List Expr → List Addr → Bool → Prop
  | nil : ClsAt X D [] [] false
  | cons {x : Str} {p : Pos} {b r : Bool} {es : List Expr} {cs : List Addr} (g : Gl X x) (hd : (x == ("__debug__" : Str)) = false) (hm : ∃ c, X.mg x = some (.ref c) ∧ PySem.W.kitOne X.K (.ref D) (.ref c) = some b) (t : ClsAt X D es cs r) : ClsAt X D (.Name x p :: es) (Classical.choose hm :: cs) (b || r)
theorem ClsAt.any {X : Cx} {D : Addr} {es : List Expr} {cs : List Addr} {b : Bool} (h : ClsAt X D es cs b) : PySem.W.kitAny X.K (.ref D) (cs.map Value.ref) = some b := by
  induction h with
  | nil => rfl
  | @cons x p b r es cs g hd hm t ih =>
    have e := (Classical.choose_spec hm).2
    rw [List.map_cons, PySem.W.kitAny, e]
    cases b with
    | true => rfl
    | false => exact ih
/-- the reading of (A, B, ..) -/
theorem ClsAt.pa {X : Cx} {D : Addr} {es : List Expr} {cs : List Addr} {b : Bool} (h : ClsAt X D es cs b) (hst : ∀ x (p : Pos) rest, starEach (.Name x p :: rest) X.env = (false, eval (.Name x p) X.env) :: starEach rest X.env) : ∃ t : TA, PA X es t ∧ ∀ σ H (Q : List V → Hp → Prop), Q (cs.map V.ref) H → t σ H Q := by
  induction h with
  | nil => exact ⟨tNil, pa_nil, fun σ H Q q => q⟩
  | @cons x p b r es cs g hd hm t ih =>
    obtain ⟨tt, ht, hq⟩ := ih
    refine ⟨tCons (tC (.ref (Classical.choose hm))) tt, pa_cons (pe_glob (v := .ref (Classical.choose hm)) g (Classical.choose_spec hm).1 rfl hd) ht (hst _ _ _), fun σ H Q q => hq σ H _ q⟩
/-- isinstance(e, (A, B, ..)) -/
def tIsM (pt : Addr × Obj) (d : Option Addr) (b : Bool) (te : TE) : TE := fun σ H Q => te σ H fun v H1 => v = .ref pt.1 ∧ (∀ a, d = some a → ∃ fs, H1 a = some (.xd fs)) ∧ ∀ H2, Ex H1 H2 → Q (.bl b) H2
theorem pe_isT1 {X : Cx} {D : Addr} {d : Option Addr} {pt : Addr × Obj} {y : Str} {i : Nat} {p p1 p2 pos : Pos} {k2} {es : List Expr} {cs : List Addr} {b : Bool} (C : ExK X.K D) (hp : pt ∈ X.pn) (hx : IsEx D d pt) (gi : Gl X "isinstance") (ni : X.mg "isinstance" = none) (hst : ∀ x (p : Pos) rest, starEach (.Name x p :: rest) X.env = (false, eval (.Name x p) X.env) :: starEach rest X.env) (he : PE X (.Name y p1) (tVar i)) (h : ClsAt X D es cs b)
    (hs : starEach [.Name y p1, .Tuple es k2 p2] X.env = (false, eval (.Name y p1) X.env) :: starEach [.Tuple es k2 p2] X.env := by rfl) (hs2 : starEach [.Tuple es k2 p2] X.env = (false, eval (.Tuple es k2 p2) X.env) :: starEach [] X.env := by rfl) (hn : cs.length ≤ 1000 := by simp) :
    PE X (.Call (.Name "isinstance" p) [.Name y p1, .Tuple es k2 p2] [] pos) (tIsM pt d b (tVar i)) := by
  obtain ⟨t, ht, hq⟩ := h.pa hst
  have r := pe_callB (pos := pos) (p := p) (call_isT C hp hx) gi ni boot_isinstance (pa_cons he (pa_cons (pe_tup ht) pa_nil hs2) hs)
  refine ⟨fun pins s σ H Q I w => r.run pins s σ H Q I ?_⟩
  obtain ⟨v, h1, rfl, h2, q⟩ := w
  refine ⟨_, h1, hq _ _ _ ⟨sz_of (by rw [List.length_map]; omega), fun tp htp => ⟨tp, cs, b, rfl, st_of upd_same, fun a e => ?_, h.any, q _ (Ex.new htp)⟩⟩⟩
  obtain ⟨fs, z⟩ := h2 a e
  exact ⟨fs, Ex.new htp _ _ z⟩
theorem ev_isM {pt : Addr × Obj} {d : Option Addr} {b : Bool} {te : TE} {σ : L2.St} {H : Hp} (h : Ev te σ H (.ref pt.1)) (hd : ∀ a, d = some a → ∃ fs, H a = some (.xd fs)) : Ev (tIsM pt d b te) σ H (.bl b) := fun H1 e Q q => h H1 e _ fun H2 e2 => ⟨rfl, xs_ex (e.trans e2) hd, fun H3 e3 => q H3 (e2.trans e3)⟩
/-- which field is told -/
def fieldOf (fl : List Bool) : Option Str := if ((fl.getD 8 false || (fl.getD 22 false || false))) = true then some "at" else if ((fl.getD 6 false || (fl.getD 3 false || false))) = true then some "who" else if ((fl.getD 9 false || (fl.getD 24 false || (fl.getD 16 false || (fl.getD 19 false || false))))) = true then some "number" else if ((fl.getD 5 false || (fl.getD 20 false || false))) = true then some "key" else if fl.getD 14 false = true then some "name" else if fl.getD 21 false = true then some "many" else none
/-- the field told, or None -/
def spFieldN (K : PySem.W.Frag) (mg : Str → Option Value) : SpP := fun p vs H Q _ => ∃ (D : Addr) (d : Option Addr) (fl : List Bool), vs = [.ref p.1] ∧ Kd K mg D fl ∧ XfC K D ∧ IsEx D d p ∧ (∀ a, d = some a → ∃ fs, H a = some (.xd fs)) ∧
  (∀ n, fieldOf fl = some n → PySem.W.findIn K (.ref D) n = some none ∧ ∃ (b : Addr) (fs : List (Str × V)) (v : V), d = some b ∧ H b = some (.xd fs) ∧ fs.lookup n = some v ∧ ∀ H', Ex H H' → Q v H') ∧ (fieldOf fl = none → ∀ H', Ex H H' → Q .non H')
def tFlN (K : PySem.W.Frag) (mg : Str → Option Value) (a : Addr) (cls : Value) (d : Option Addr) (i : Nat) : TE := fun σ H Q => σ[i]? = some (some (.ref a)) ∧ ∃ (D : Addr) (fl : List Bool), cls = .ref D ∧ Kd K mg D fl ∧ XfC K D ∧ (∀ a, d = some a → ∃ fs, H a = some (.xd fs)) ∧
  (∀ n, fieldOf fl = some n → PySem.W.findIn K (.ref D) n = some none ∧ ∃ (b : Addr) (fs : List (Str × V)) (v : V), d = some b ∧ H b = some (.xd fs) ∧ fs.lookup n = some v ∧ ∀ H', Ex H H' → Q v H') ∧ (fieldOf fl = none → ∀ H', Ex H H' → Q .non H')
theorem pe_flN {X : Cx} {a : Addr} {oe : Obj} {cls : Value} {d : Option Addr} {pn : List (Addr × Obj)} {i j k : Nat} {y : Str} {p p1 pos : Pos} (hz : L2N.Zn cls d oe) (hf : ∃ vs, oe.data = .fields vs) (dF : OwnP X.prog X.w X.K X.mg X.base "_law_field" ["e"] k (spFieldN X.K X.mg)) (hr : Room j X.A) (hj : k ≤ j) (hg : Gl X "_law_field") (he : PE (X.suite a ((a, oe) :: pn)) (.Name y p1) (tVar i)) :
    PE (X.suite a ((a, oe) :: pn)) (.Call (.Name "_law_field" p) [.Name y p1] [] pos) (tFlN X.K X.mg a cls d i) := by
  have r := pe_ownP (X := X.suite a ((a, oe) :: pn)) (p := p) (pos := pos) dF (hot_suite hz hf) (roomH_mark hr _) hj hg (pa_cons he pa_nil)
  refine ⟨fun pins s σ H Q I h => r.run pins s σ H Q I ?_⟩
  obtain ⟨h1, D, fl, e, kd, T, hd, q1, q2⟩ := h
  subst e
  exact ⟨_, h1, D, d, fl, rfl, kd, T, ⟨hz.1, hz.2.1, hf⟩, hd, q1, q2⟩
end Tc
namespace K13
open PySem L2 L2H PyProof.Rows Tc Evl
abbrev sField : Stmt := topS 67
abbrev sCall : Stmt := topS 66
abbrev sTried : Stmt := topS 68
theorem scField : FnScope ["e"] ["e"] (defScope sField) := ⟨rfl, rfl, rfl, by decide +kernel, rfl, by decide +kernel, by decide +kernel⟩
theorem scCall : FnScope ["house", "step", "word"] ["house", "step"] (defScope sCall) := ⟨rfl, rfl, rfl, by decide +kernel, rfl, by decide +kernel, by decide +kernel⟩
theorem scTried : FnScope ["house", "step", "found", "kind", "field", "e"] ["house", "step"] (defScope sTried) := ⟨rfl, rfl, rfl, by decide +kernel, rfl, by decide +kernel, by decide +kernel⟩
/-- NoChange, TooMany among the classes -/
def flNc : List Bool := (List.range 26).map fun i => decide (i = 1 ∨ i = 4 ∨ i = 25)
def flTm : List Bool := (List.range 26).map fun i => decide (i = 1 ∨ i = 21 ∨ i = 25)
theorem nc_text : Txt.join "" (kindsL flNc) = "told NoChange+" := by decide +kernel
theorem tm_text : Txt.join "" (kindsL flTm) = "told TooMany+" := by decide +kernel
theorem nc_field : fieldOf flNc = none := by decide +kernel
theorem tm_field : fieldOf flTm = some "many" := by decide +kernel
/-- the step ("change", v) -/
def spCall (K : PySem.W.Frag) (C CN CM : Addr) : Sp := fun vs H Q E => ∃ (hp st : Addr) (v : V), vs = [.ref hp, .ref st] ∧ SqT K H st [.str "change", v] ∧ ∀ H', Ex H H' → spHCh K C CN CM [.ref hp, v] H' Q E
def spTried (K : PySem.W.Frag) (C : Addr) : Sp := fun vs H Q _ => ∃ (p dW dK dL dR : Addr) (kvs : List (Key × V)) (kept : List V) (fk lg bg : Int) (liv run : List (Key × V)) (f : Int → Option Int) (v : V) (d : PyData) (st : Addr), vs = [.ref p, .ref st] ∧ SqT K H st [.str "change", v] ∧ HsAt C H p dW dK dL dR kvs kept fk lg bg liv run ∧ DI allK kvs f ∧ Dp K H v d ∧ kept.length ≤ 10000 ∧
  (isGr d = false → ∀ t H', Ex H H' → H' t = some (.tup [.non, .str "told NoChange+", .non]) → Q (.ref t) H') ∧
  (isGr d = true → ∀ kvs', DI allK kvs' (appl f (grD d)) → 100 < kvs'.length → ∀ t H', Ex H H' → H' t = some (.tup [.non, .str "told TooMany+", .int (kvs'.length : Int)]) → Q (.ref t) H') ∧
  (isGr d = true → ∀ dW' e kvs' t H', H dW' = none → (∀ a o, a ≠ p → a ≠ dK → H a = some o → H' a = some o) → HsAt C H' p dW' dK dL dR kvs' (kept ++ [.ref e]) fk lg bg liv run → DI allK kvs' (appl f (grD d)) → kvs'.length ≤ 100 → Dp K H' (.ref e) (.tuple [.str "group", d]) → H' t = some (.tup [.non, .str "", .non]) → Q (.ref t) H')
section
variable {P : Program} {w : World} {K : PySem.W.Frag} {mg : Str → Option Value} {base : Heap}
abbrev sKinds : Stmt := topS 56
theorem scKinds : FnScope ["e", "some", "words", "k"] ["e"] (defScope sKinds) := ⟨rfl, rfl, rfl, by decide +kernel, rfl, by decide +kernel, by decide +kernel⟩
set_option maxHeartbeats 2000000 in
theorem ok_kinds {f : Addr} {fd : FuncData} {k : Nat} (F : Fun K "_law_kinds" "_law_kinds" sKinds f fd) (N : Names mg) : FnP P w K mg base CX0 (k + 1) f fd ["e"] (spKinds K mg) := by
  refine okP F scKinds (fun p vs H Q E h => ?_) (fun cdv A outer s H vs Q E p hot hr h => ?_)
  · obtain ⟨D, d, fl, rfl, _⟩ := h
    rfl
  · obtain ⟨D, d, fl, rfl, C, hx, hd, q⟩ := h
    have hp : HotP (cxH CX0 P w K mg base ["e", "some", "words", "k"] "_law_kinds" (defScope sKinds) f cdv A outer s H E p) p := ⟨⟨hot.1, hot.2⟩, List.mem_singleton.mpr rfl⟩
    refine ⟨_, (pss_cons (ps_set (i := 1) scKinds.nd rfl (.inr rfl) (pe_lst (pa_cons (pe_is1 C.ck hp.2 hx (by rfl) N.isinstance (by rfl) (C.one 0 _ rfl) (pv 0)) (pa_cons (pe_is1 C.ck hp.2 hx (by rfl) N.isinstance (by rfl) (C.one 1 _ rfl) (pv 0)) (pa_cons (pe_is1 C.ck hp.2 hx (by rfl) N.isinstance (by rfl) (C.one 2 _ rfl) (pv 0)) (pa_cons (pe_is1 C.ck hp.2 hx (by rfl) N.isinstance (by rfl) (C.one 3 _ rfl) (pv 0)) pa_nil))))))
      (pss_cons (ps_set (i := 1) scKinds.nd rfl (.inr rfl) (pe_op op_cat (pv 1) (pe_lst (pa_cons (pe_is1 C.ck hp.2 hx (by rfl) N.isinstance (by rfl) (C.one 4 _ rfl) (pv 0)) (pa_cons (pe_is1 C.ck hp.2 hx (by rfl) N.isinstance (by rfl) (C.one 5 _ rfl) (pv 0)) (pa_cons (pe_is1 C.ck hp.2 hx (by rfl) N.isinstance (by rfl) (C.one 6 _ rfl) (pv 0)) (pa_cons (pe_is1 C.ck hp.2 hx (by rfl) N.isinstance (by rfl) (C.one 7 _ rfl) (pv 0)) pa_nil)))))))
      (pss_cons (ps_set (i := 1) scKinds.nd rfl (.inr rfl) (pe_op op_cat (pv 1) (pe_lst (pa_cons (pe_is1 C.ck hp.2 hx (by rfl) N.isinstance (by rfl) (C.one 8 _ rfl) (pv 0)) (pa_cons (pe_is1 C.ck hp.2 hx (by rfl) N.isinstance (by rfl) (C.one 9 _ rfl) (pv 0)) (pa_cons (pe_is1 C.ck hp.2 hx (by rfl) N.isinstance (by rfl) (C.one 10 _ rfl) (pv 0)) (pa_cons (pe_is1 C.ck hp.2 hx (by rfl) N.isinstance (by rfl) (C.one 11 _ rfl) (pv 0)) pa_nil)))))))
      (pss_cons (ps_set (i := 1) scKinds.nd rfl (.inr rfl) (pe_op op_cat (pv 1) (pe_lst (pa_cons (pe_is1 C.ck hp.2 hx (by rfl) N.isinstance (by rfl) (C.one 12 _ rfl) (pv 0)) (pa_cons (pe_is1 C.ck hp.2 hx (by rfl) N.isinstance (by rfl) (C.one 13 _ rfl) (pv 0)) (pa_cons (pe_is1 C.ck hp.2 hx (by rfl) N.isinstance (by rfl) (C.one 14 _ rfl) (pv 0)) (pa_cons (pe_is1 C.ck hp.2 hx (by rfl) N.isinstance (by rfl) (C.one 15 _ rfl) (pv 0)) pa_nil)))))))
      (pss_cons (ps_set (i := 1) scKinds.nd rfl (.inr rfl) (pe_op op_cat (pv 1) (pe_lst (pa_cons (pe_is1 C.ck hp.2 hx (by rfl) N.isinstance (by rfl) (C.one 16 _ rfl) (pv 0)) (pa_cons (pe_is1 C.ck hp.2 hx (by rfl) N.isinstance (by rfl) (C.one 17 _ rfl) (pv 0)) (pa_cons (pe_is1 C.ck hp.2 hx (by rfl) N.isinstance (by rfl) (C.one 18 _ rfl) (pv 0)) pa_nil))))))
      (pss_cons (ps_set (i := 1) scKinds.nd rfl (.inr rfl) (pe_op op_cat (pv 1) (pe_lst (pa_cons (pe_is1 C.ck hp.2 hx (by rfl) N.isinstance (by rfl) (C.one 19 _ rfl) (pv 0)) (pa_cons (pe_is1 C.ck hp.2 hx (by rfl) N.isinstance (by rfl) (C.one 20 _ rfl) (pv 0)) (pa_cons (pe_is1 C.ck hp.2 hx (by rfl) N.isinstance (by rfl) (C.one 21 _ rfl) (pv 0)) (pa_cons (pe_is1 C.ck hp.2 hx (by rfl) N.isinstance (by rfl) (C.one 22 _ rfl) (pv 0)) pa_nil)))))))
      (pss_cons (ps_set (i := 1) scKinds.nd rfl (.inr rfl) (pe_op op_cat (pv 1) (pe_lst (pa_cons (pe_is1 C.ck hp.2 hx (by rfl) N.isinstance (by rfl) (C.one 23 _ rfl) (pv 0)) (pa_cons (pe_is1 C.ck hp.2 hx (by rfl) N.isinstance (by rfl) (C.one 24 _ rfl) (pv 0)) (pa_cons (pe_isV C.ck hp.2 hx (by rfl) N.isinstance (by rfl) N.ve C.ve (pv 0)) pa_nil))))))
      (pss_cons (ps_set (i := 2) scKinds.nd rfl (.inr rfl) (pe_lst (pa_cons pe_str (pa_cons pe_str (pa_cons pe_str (pa_cons pe_str (pa_cons pe_str (pa_cons pe_str (pa_cons pe_str (pa_cons pe_str (pa_cons pe_str (pa_cons pe_str pa_nil))))))))))))
      (pss_cons (ps_set (i := 2) scKinds.nd rfl (.inr rfl) (pe_op op_cat (pv 2) (pe_lst (pa_cons pe_str (pa_cons pe_str (pa_cons pe_str (pa_cons pe_str (pa_cons pe_str (pa_cons pe_str (pa_cons pe_str (pa_cons pe_str pa_nil)))))))))))
      (pss_cons (ps_set (i := 2) scKinds.nd rfl (.inr rfl) (pe_op op_cat (pv 2) (pe_lst (pa_cons pe_str (pa_cons pe_str (pa_cons pe_str (pa_cons pe_str (pa_cons pe_str (pa_cons pe_str (pa_cons pe_str (pa_cons pe_str pa_nil)))))))))))
      (pss_one (ps_ret (pe_join pe_str (pe_lcH (own := [("k", 3)]) (g := gName 3) (tt := tB (tOp (rIxL K) (tVar 1) (tVar 3))) (te := tOp (rIxL K) (tVar 2) (tVar 3)) hp scKinds.nd (pi_range1H (by rfl) N.range (pa_cons pe_int pa_nil)) (blkOk_by (N := ["e", "some", "words", "k"]) (sc := defScope sKinds) (by decide +kernel)) (fun _ _ _ _ _ => pg_name (i := 3) scKinds.nd rfl (Or.inl rfl)) (fun _ _ _ _ _ => (pts_one (pt_val (pe_ix ix_list (pv 1) (pv 3) (fun _ _ => rfl))))) (fun _ _ _ _ _ => (pe_ix ix_list (pv 2) (pv 3) (fun _ _ => rfl))))))))))))))))), ?_⟩
    refine q_asgL (el_lst (ea_cons (ev_is1 (ev_var rfl) (xs_ex (Ex.refl H) hd)) (ea_cons (ev_is1 (ev_var rfl) (xs_ex (Ex.refl H) hd)) (ea_cons (ev_is1 (ev_var rfl) (xs_ex (Ex.refl H) hd)) (ea_cons (ev_is1 (ev_var rfl) (xs_ex (Ex.refl H) hd)) ea_nil)))) (by simp)) (fun p0 H0 _ x0 h0 => ?_)
    refine q_asgL (el_catV (ev_var rfl) h0 (el_lst (ea_cons (ev_is1 (ev_var rfl) (xs_ex x0 hd)) (ea_cons (ev_is1 (ev_var rfl) (xs_ex x0 hd)) (ea_cons (ev_is1 (ev_var rfl) (xs_ex x0 hd)) (ea_cons (ev_is1 (ev_var rfl) (xs_ex x0 hd)) ea_nil)))) (by simp)) (by simp)) (fun p1 H1 _ y1 h1 => ?_)
    have x1 := x0.trans y1
    refine q_asgL (el_catV (ev_var rfl) h1 (el_lst (ea_cons (ev_is1 (ev_var rfl) (xs_ex x1 hd)) (ea_cons (ev_is1 (ev_var rfl) (xs_ex x1 hd)) (ea_cons (ev_is1 (ev_var rfl) (xs_ex x1 hd)) (ea_cons (ev_is1 (ev_var rfl) (xs_ex x1 hd)) ea_nil)))) (by simp)) (by simp)) (fun p2 H2 _ y2 h2 => ?_)
    have x2 := x1.trans y2
    refine q_asgL (el_catV (ev_var rfl) h2 (el_lst (ea_cons (ev_is1 (ev_var rfl) (xs_ex x2 hd)) (ea_cons (ev_is1 (ev_var rfl) (xs_ex x2 hd)) (ea_cons (ev_is1 (ev_var rfl) (xs_ex x2 hd)) (ea_cons (ev_is1 (ev_var rfl) (xs_ex x2 hd)) ea_nil)))) (by simp)) (by simp)) (fun p3 H3 _ y3 h3 => ?_)
    have x3 := x2.trans y3
    refine q_asgL (el_catV (ev_var rfl) h3 (el_lst (ea_cons (ev_is1 (ev_var rfl) (xs_ex x3 hd)) (ea_cons (ev_is1 (ev_var rfl) (xs_ex x3 hd)) (ea_cons (ev_is1 (ev_var rfl) (xs_ex x3 hd)) ea_nil))) (by simp)) (by simp)) (fun p4 H4 _ y4 h4 => ?_)
    have x4 := x3.trans y4
    refine q_asgL (el_catV (ev_var rfl) h4 (el_lst (ea_cons (ev_is1 (ev_var rfl) (xs_ex x4 hd)) (ea_cons (ev_is1 (ev_var rfl) (xs_ex x4 hd)) (ea_cons (ev_is1 (ev_var rfl) (xs_ex x4 hd)) (ea_cons (ev_is1 (ev_var rfl) (xs_ex x4 hd)) ea_nil)))) (by simp)) (by simp)) (fun p5 H5 _ y5 h5 => ?_)
    have x5 := x4.trans y5
    refine q_asgL (el_catV (ev_var rfl) h5 (el_lst (ea_cons (ev_is1 (ev_var rfl) (xs_ex x5 hd)) (ea_cons (ev_is1 (ev_var rfl) (xs_ex x5 hd)) (ea_cons (ev_is1 (ev_var rfl) (xs_ex x5 hd)) ea_nil))) (by simp)) (by simp)) (fun p6 H6 _ y6 h6 => ?_)
    have x6 := x5.trans y6
    refine q_asgL (el_lst (ea_cons ev_c (ea_cons ev_c (ea_cons ev_c (ea_cons ev_c (ea_cons ev_c (ea_cons ev_c (ea_cons ev_c (ea_cons ev_c (ea_cons ev_c (ea_cons ev_c ea_nil)))))))))) (by simp)) (fun p7 H7 _ y7 h7 => ?_)
    have x7 := x6.trans y7
    refine q_asgL (el_catV (ev_var rfl) h7 (el_lst (ea_cons ev_c (ea_cons ev_c (ea_cons ev_c (ea_cons ev_c (ea_cons ev_c (ea_cons ev_c (ea_cons ev_c (ea_cons ev_c ea_nil)))))))) (by simp)) (by simp)) (fun p8 H8 _ y8 h8 => ?_)
    have x8 := x7.trans y8
    refine q_asgL (el_catV (ev_var rfl) h8 (el_lst (ea_cons ev_c (ea_cons ev_c (ea_cons ev_c (ea_cons ev_c (ea_cons ev_c (ea_cons ev_c (ea_cons ev_c (ea_cons ev_c ea_nil)))))))) (by simp)) (by simp)) (fun p9 H9 _ y9 h9 => ?_)
    have x9 := x8.trans y9
    rw [flags_eq fun i => V.bl (fl.getD i false)] at h6
    exact kinds_end (v := .ref p.1) (((y7.trans y8).trans y9) p6 _ h6) h9 fun H' x' => q H' (x9.trans x')
set_option maxHeartbeats 2000000 in
theorem ok_field {f : Addr} {fd : FuncData} {k : Nat} (F : Fun K "_law_field" "_law_field" sField f fd) (N : Names mg) : FnP P w K mg base CX0 (k + 1) f fd ["e"] (spFieldN K mg) := by
  refine okP F scField (fun p vs H Q E h => ?_) (fun cdv A outer s H vs Q E p hot hr h => ?_)
  · obtain ⟨D, d, fl, rfl, _⟩ := h
    rfl
  · obtain ⟨D, d, fl, rfl, C, T, hx, hd, q1, q2⟩ := h
    have hp : HotP (cxH CX0 P w K mg base ["e"] "_law_field" (defScope sField) f cdv A outer s H E p) p := ⟨⟨hot.1, hot.2⟩, List.mem_singleton.mpr rfl⟩
    have hno : ∀ m : Str, fieldOf fl = some m → PySem.W.findIn K (.ref D) m = some none := fun m e => (q1 m e).1
    refine ⟨_, (pss_cons (ps_if (pt_val (pe_isT1 C.ck hp.2 hx (by rfl) N.isinstance (fun _ _ _ => rfl) (pv 0) (.cons (by rfl) (by decide) (C.one 8 _ rfl) (.cons (by rfl) (by decide) (C.one 22 _ rfl) .nil)))) (pss_one (ps_ret (pe_c (c := fieldOf fl = some (Str.ofString "at")) fun h => pe_xp T (hno _ h) hp.2 hx (pv 0)))) pss_nil)
      (pss_cons (ps_if (pt_val (pe_isT1 C.ck hp.2 hx (by rfl) N.isinstance (fun _ _ _ => rfl) (pv 0) (.cons (by rfl) (by decide) (C.one 6 _ rfl) (.cons (by rfl) (by decide) (C.one 3 _ rfl) .nil)))) (pss_one (ps_ret (pe_c (c := fieldOf fl = some (Str.ofString "who")) fun h => pe_xp T (hno _ h) hp.2 hx (pv 0)))) pss_nil)
      (pss_cons (ps_if (pt_val (pe_isT1 C.ck hp.2 hx (by rfl) N.isinstance (fun _ _ _ => rfl) (pv 0) (.cons (by rfl) (by decide) (C.one 9 _ rfl) (.cons (by rfl) (by decide) (C.one 24 _ rfl) (.cons (by rfl) (by decide) (C.one 16 _ rfl) (.cons (by rfl) (by decide) (C.one 19 _ rfl) .nil)))))) (pss_one (ps_ret (pe_c (c := fieldOf fl = some (Str.ofString "number")) fun h => pe_xp T (hno _ h) hp.2 hx (pv 0)))) pss_nil)
      (pss_cons (ps_if (pt_val (pe_isT1 C.ck hp.2 hx (by rfl) N.isinstance (fun _ _ _ => rfl) (pv 0) (.cons (by rfl) (by decide) (C.one 5 _ rfl) (.cons (by rfl) (by decide) (C.one 20 _ rfl) .nil)))) (pss_one (ps_ret (pe_c (c := fieldOf fl = some (Str.ofString "key")) fun h => pe_xp T (hno _ h) hp.2 hx (pv 0)))) pss_nil)
      (pss_cons (ps_if (pt_val (pe_is1 C.ck hp.2 hx (by rfl) N.isinstance (by rfl) (C.one 14 _ rfl) (pv 0))) (pss_one (ps_ret (pe_c (c := fieldOf fl = some (Str.ofString "name")) fun h => pe_xp T (hno _ h) hp.2 hx (pv 0)))) pss_nil)
      (pss_one (ps_ret (pe_ifExp (pt_val (pe_is1 C.ck hp.2 hx (by rfl) N.isinstance (by rfl) (C.one 21 _ rfl) (pv 0))) (pe_c (c := fieldOf fl = some (Str.ofString "many")) fun h => pe_xp T (hno _ h) hp.2 hx (pv 0)) pe_non)))))))), ?_⟩
    have tell : ∀ (m : Str) (G : Hp) (D' : Ends), fieldOf fl = some m → Ex H G → (∀ v H', D'.rt v H' = Q v H') → tRet (tXc (fieldOf fl = some m) (tXp p d m (tVar 0))) D' [some (.ref p.1)] G := fun m G D' e x hD => by
      obtain ⟨_, b, fs, v, eb, hb, hl, q⟩ := q1 m e
      refine ⟨e, .ref p.1, rfl, rfl, b, fs, v, eb, x _ _ hb, hl, ?_⟩
      rw [hD]
      exact q G x
    refine s_seq (s_if (b := (fl.getD 8 false || (fl.getD 22 false || false))) (et_B (ev_isM (ev_var rfl) (xs_ex (Ex.refl H) hd))) (fun c0 G0 y0 => tell "at" G0 _ (by unfold fieldOf; rw [if_pos c0]) (((Ex.refl H)).trans y0) fun _ _ => rfl) fun c0 G0 y0 => s_next ?_)
    have x0 := ((Ex.refl H)).trans y0
    refine s_seq (s_if (b := (fl.getD 6 false || (fl.getD 3 false || false))) (et_B (ev_isM (ev_var rfl) (xs_ex x0 hd))) (fun c1 G1 y1 => tell "who" G1 _ (by unfold fieldOf; rw [if_neg (by rw [c0]; exact Bool.false_ne_true), if_pos c1]) ((x0).trans y1) fun _ _ => rfl) fun c1 G1 y1 => s_next ?_)
    have x1 := (x0).trans y1
    refine s_seq (s_if (b := (fl.getD 9 false || (fl.getD 24 false || (fl.getD 16 false || (fl.getD 19 false || false))))) (et_B (ev_isM (ev_var rfl) (xs_ex x1 hd))) (fun c2 G2 y2 => tell "number" G2 _ (by unfold fieldOf; rw [if_neg (by rw [c0]; exact Bool.false_ne_true), if_neg (by rw [c1]; exact Bool.false_ne_true), if_pos c2]) ((x1).trans y2) fun _ _ => rfl) fun c2 G2 y2 => s_next ?_)
    have x2 := (x1).trans y2
    refine s_seq (s_if (b := (fl.getD 5 false || (fl.getD 20 false || false))) (et_B (ev_isM (ev_var rfl) (xs_ex x2 hd))) (fun c3 G3 y3 => tell "key" G3 _ (by unfold fieldOf; rw [if_neg (by rw [c0]; exact Bool.false_ne_true), if_neg (by rw [c1]; exact Bool.false_ne_true), if_neg (by rw [c2]; exact Bool.false_ne_true), if_pos c3]) ((x2).trans y3) fun _ _ => rfl) fun c3 G3 y3 => s_next ?_)
    have x3 := (x2).trans y3
    refine s_seq (s_if (b := fl.getD 14 false) (et_B (ev_is1 (ev_var rfl) (xs_ex x3 hd))) (fun c4 G4 y4 => tell "name" G4 _ (by unfold fieldOf; rw [if_neg (by rw [c0]; exact Bool.false_ne_true), if_neg (by rw [c1]; exact Bool.false_ne_true), if_neg (by rw [c2]; exact Bool.false_ne_true), if_neg (by rw [c3]; exact Bool.false_ne_true), if_pos c4]) ((x3).trans y4) fun _ _ => rfl) fun c4 G4 y4 => s_next ?_)
    have x4 := (x3).trans y4
    dsimp only
    unfold tRet tIf
    refine (et_B (ev_is1 (pt := p) (d := d) (b := fl.getD 21 false) (te := tVar 0) (σ := [some (.ref p.1)]) (H := G4) (ev_var rfl) (xs_ex x4 hd))) G4 (Ex.refl G4) _ fun G9 y9 => ?_
    refine ite2 (fun c9 => ?_) (fun c9 => ?_)
    · exact (tell "many" G9 { nx := fun _ H' => Q .non H', rt := Q } (by unfold fieldOf; rw [if_neg (by rw [c0]; exact Bool.false_ne_true), if_neg (by rw [c1]; exact Bool.false_ne_true), if_neg (by rw [c2]; exact Bool.false_ne_true), if_neg (by rw [c3]; exact Bool.false_ne_true), if_neg (by rw [c4]; exact Bool.false_ne_true), if_pos c9]) ((x4).trans y9) fun _ _ => rfl)
    · refine q2 ?_ G9 ((x4).trans y9)
      unfold fieldOf
      rw [if_neg (by rw [c0]; exact Bool.false_ne_true), if_neg (by rw [c1]; exact Bool.false_ne_true), if_neg (by rw [c2]; exact Bool.false_ne_true), if_neg (by rw [c3]; exact Bool.false_ne_true), if_neg (by rw [c4]; exact Bool.false_ne_true), if_neg c9]

theorem ok_call {f C CN CM : Addr} {fd : FuncData} {kCh k : Nat} (F : Fun K "_law_house_call" "_law_house_call" sCall f fd) (T : HTx K mg C) (dCh : MethX P w K mg base C "change" ["self", "changes"] kCh (spHCh K C CN CM)) (hCh : kCh ≤ k) : FnOk P w K mg base (L2N.CX P w) (k + 1) f fd ["house", "step"] (spCall K C CN CM) := by
  refine okN F scCall (fun vs H Q E h => ?_) (fun cdv A outer s H vs Q E hr h => ?_)
  · obtain ⟨hp, st, v, rfl, _⟩ := h
    rfl
  · obtain ⟨hp, st, v, rfl, hst, hc⟩ := h
    refine ⟨_, (pss_cons (ps_set (i := 2) scCall.nd rfl (.inl rfl) (pe_ix ix_tup (pv 1) pe_int (fun _ _ => rfl)))
      (pss_cons (ps_if (pt_cmpR op_eq (pv 2) pe_str (nomark _)) (pss_one (ps_ret (pe_methX dCh (L2N.takes_of rfl rfl rfl rfl) hr hCh T.cl (pv 0) (pa_cons (pe_ix ix_tup (pv 1) pe_int (fun _ _ => rfl)) pa_nil)))) pss_nil)
      pss_never)), ?_⟩
    refine q_asg (ev_ix0 (ev_var rfl) hst) fun H1 x1 => ?_
    refine s_seq (s_if (b := true) (et_is (et_test (ev_op (ev_var rfl) ev_c (rv_eq rfl))) (by decide)) (fun _ H2 x2 => ?_) fun z => by cases z)
    have x12 := x1.trans x2
    have := hc H2 x12
    obtain ⟨p, dW, dK, dL, dR, kvs, kept, fk, lg, bg, liv, run, f, v', d, e0, S, _⟩ := this
    cases e0
    obtain ⟨dx, hob⟩ := S.ob
    refine ⟨_, rfl, hp, dx, _, rfl, hob, hfl_no _ _ _ _ _ _ _ (by decide +kernel), ?_⟩
    refine ea_cons (ev_ix1 (ev_var rfl) (Evl.ex_t x12 hst)) ea_nil H2 (Ex.refl H2) _ fun H3 x3 => ?_
    exact hc H3 (x12.trans x3)
set_option maxHeartbeats 1000000 in
theorem ok_tried {f C CN CM CE : Addr} {fd : FuncData} {kC kKn kF k : Nat} (F : Fun K "_law_house_tried" "_law_house_tried" sTried f fd) (mE : mg "TideError" = some (.ref CE)) (EN : ExC K mg "NoChange" CN flNc) (eN : PySem.W.exmOne K (.ref CN) (.ref CE) = some true) (EM : ExC K mg "TooMany" CM flTm) (eM : PySem.W.exmOne K (.ref CM) (.ref CE) = some true) (nM : PySem.W.findIn K (.ref CM) "many" = some none)
    (dC : OwnX P w K mg base "_law_house_call" ["house", "step"] kC (spCall K C CN CM)) (hC : kC ≤ k) (dKn : OwnP P w K mg base "_law_kinds" ["e"] kKn (spKinds K mg)) (hKn : kKn ≤ k) (dF : OwnP P w K mg base "_law_field" ["e"] kF (spFieldN K mg)) (hF : kF ≤ k) :
    FnOk P w K mg base CX0 (k + 1) f fd ["house", "step"] (spTried K C) := by
  refine F.ok scTried (fun vs H Q E h => ?_) (fun cdv A outer s H vs Q E hr h => ?_)
  · obtain ⟨p, dW, dK, dL, dR, kvs, kept, fk, lg, bg, liv, run, f, v, d, st, rfl, _⟩ := h
    rfl
  · obtain ⟨p, dW, dK, dL, dR, kvs, kept, fk, lg, bg, liv, run, f, v, d, st, rfl, hst, S, di, hd, few, q1, q2, q3⟩ := h
    refine ⟨_, pss_cons (ps_set (i := 2) scTried.nd rfl (.inl rfl) pe_non)
      (pss_cons (ps_set (i := 3) scTried.nd rfl (.inl rfl) pe_str)
      (pss_cons (ps_set (i := 4) scTried.nd rfl (.inl rfl) pe_non)
      (pss_cons (L2N.ps_try_as (i := 5) (c := .ref CE) (tb := fun W => tAsg (tCallS (spCall K C CN CM) (WE W) (tCons (tVar 0) (tCons (tVar 1) tNil))) (gName 2)) (ts := fun a cls d => tPar 3 4 (tCons (tKn K mg a cls d 5) (tCons (tFlN K mg a cls d 5) tNil))) rfl rfl scTried.nd rfl rfl ⟨rfl, by decide, .inl mE⟩ none_out
        (fun W pn xe tk _ => pss_one (ps_set (i := 2) scTried.nd rfl (.inl rfl) (pe_ownX dC tk hr hC (by rfl) (pa_cons (pv 0) (pa_cons (pv 1) pa_nil)))))
        (fun a oe cls d pn hz hf => pss_one (ps_parH (i := 3) (j := 4) (hot_suite hz hf).c scTried.nd rfl rfl (by decide) rfl rfl (pa_cons (pe_kn hz hf dKn hr hKn (by rfl) (pv 5)) (pa_cons (pe_flN hz hf dF hr hF (by rfl) (pv 5)) pa_nil)) rfl)))
      (pss_one (ps_ret (pe_tup (pa_cons (pv 2) (pa_cons (pv 3) (pa_cons (pv 4) pa_nil))))))))), ?_⟩
    refine q_asg ev_c fun H1 x1 => q_asg ev_c fun H2 x2 => q_asg ev_c fun H3 x3 => s_seq ?_
    have xa := (x1.trans x2).trans x3
    refine ⟨.ref p, rfl, .ref st, rfl, p, st, v, rfl, Evl.ex_t xa hst, fun H4 x4 => ?_⟩
    have xb := xa.trans x4
    refine ⟨p, dW, dK, dL, dR, kvs, kept, fk, lg, bg, liv, run, f, v, d, rfl, S.ex xb, di, dp_same xb _ _ hd, few, fun bad H5 x5 => ?_, fun gr kvs' di' big b H5 nb x5 h5 => ?_, fun gr dW' e kvs' H5 nW off S5 di' small he => ?_⟩
    · refine ⟨true, eN, fun _ a na => ⟨rfl, CN, flNc, rfl, EN.kd, (fun b e => by cases e), fun H6 x6 => ⟨rfl, CN, flNc, rfl, EN.kd, EN.xf, (fun b e => by cases e), (fun n e => by rw [nc_field] at e; cases e), fun _ H7 x7 => ?_⟩⟩, fun e => by cases e⟩
      rw [nc_text]
      exact ⟨.str "told NoChange+", .non, rfl, .non, rfl, .str "told NoChange+", rfl, .non, rfl, sz_of (by simp), fun t ht => q1 bad t _ (((xb.trans x5).trans (x6.trans x7)).trans (Ex.new ht)) upd_same⟩
    · refine ⟨true, eM, fun _ a na => ⟨rfl, CM, flTm, rfl, EM.kd, (fun c e => ⟨_, Option.some.inj e ▸ h5⟩), fun H6 x6 => ⟨rfl, CM, flTm, rfl, EM.kd, EM.xf, (fun c e => ⟨_, Option.some.inj e ▸ x6 _ _ h5⟩), (fun n e => ?_), fun e => by rw [tm_field] at e; cases e⟩⟩, fun e => by cases e⟩
      rw [tm_field] at e
      cases e
      refine ⟨nM, b, _, .int (kvs'.length : Int), rfl, x6 _ _ h5, rfl, fun H7 x7 => ?_⟩
      rw [tm_text]
      exact ⟨.str "told TooMany+", .int (kvs'.length : Int), rfl, .non, rfl, .str "told TooMany+", rfl, .int (kvs'.length : Int), rfl, sz_of (by simp), fun t ht => q2 gr kvs' di' big t _ (((xb.trans x5).trans (x6.trans x7)).trans (Ex.new ht)) upd_same⟩
    · exact ⟨.non, rfl, .str "", rfl, .non, rfl, sz_of (by simp), fun t ht => q3 gr dW' e kvs' t _ (fresh_back xb nW) (fun a o n1 n2 h => Ex.new ht _ _ (off a o n1 n2 (xb _ _ h))) (S5.ex (Ex.new ht)) di' small (dp_same (Ex.new ht) _ _ he) upd_same⟩
end
end K13
/-! draws in tests and in ranges -/
namespace Tc
open PySem L2 Evl
section
variable {b : Addr} {σ : L2.St} {H : Hp} {i : Nat} {m : Int} {E : XK} {D : Ends} {tu tw : TS}
/-- if _law_take(bag, m) == 0 -/
theorem if_draw (hB : Bag H b) (hσ : σ[i]? = some (some (.ref b))) (h0 : 0 < m) (h1 : m < 1073741824) (y : ∀ H', Fr b H H' → tu D σ H') (n : ∀ H', Fr b H H' → tw D σ H') : tIfS (tTest (tOp rEq (tCall spTake [] E (tCons (tVar i) (tCons (tC (.int m)) tNil))) (tC (.int 0)))) tu tw D σ H :=
  take_of hB (ea_cons (ev_var hσ) (ea_cons ev_c ea_nil)) h0 h1 fun r H' f _ _ => ⟨rfl, _, rfl, ite2 (fun _ => y H' f) (fun _ => n H' f)⟩
/-- for .. in range(_law_take(bag, m)) -/
theorem for_draw {j : Nat} (Pv : Nat → L2.St → Hp → Prop) (hB : Bag H b) (hσ : σ[i]? = some (some (.ref b))) (h0 : 0 < m) (h1 : m < 10000) (hp : ∀ H', Fr b H H' → Pv 0 σ H')
    (hs : ∀ (i : Nat) σ' H', (i : Int) < m → Pv i σ' H' → tu { D with nx := Pv (i + 1), ct := Pv (i + 1), bk := D.nx } (σ'.set j (some (.int (0 + (i : Int))))) H') (hd : ∀ (n : Nat) σ' H', (n : Int) ≤ m → Pv n σ' H' → D.nx σ' H') : tFor (iRng1 (tCons (tCall spTake [] E (tCons (tVar i) (tCons (tC (.int m)) tNil))) tNil)) (gName j) tu D σ H :=
  take_of hB (ea_cons (ev_var hσ) (ea_cons ev_c ea_nil)) h0 (by omega) fun r H' f r0 r1 => ⟨r, rfl, by omega, by omega, for_range (lo := 0) (n := r.toNat) Pv (hp H' f) (fun i σ' G hi p => hs i σ' G (by omega) p) (fun σ' G p => hd r.toNat σ' G (by omega) p)⟩
end
end Tc
namespace K13
open PySem L2 PyProof.Rows Tc Evl
abbrev sLaw : Stmt := topS 69
theorem scLaw : FnScope ["script", "k", "bag", "keys", "table", "house", "rows", "log", "turn", "changes", "due", "new", "at"] ["script"] (defScope sLaw) := ⟨rfl, rfl, rfl, by decide +kernel, rfl, by decide +kernel, by decide +kernel⟩
/-- by what holds between two rows -/
theorem seq_mid {a b : TS} {D : Ends} {σ : L2.St} {H : Hp} (R : L2.St → Hp → Prop) (h1 : (∀ σ' G, R σ' G → b D σ' G) → tSeq a b D σ H) (h2 : ∀ σ' G, R σ' G → b D σ' G) : tSeq a b D σ H := h1 h2
theorem HsAt.fr {C b : Addr} {H H' : Hp} {p dW dK dL dR : Addr} {kvs : List (Key × V)} {kept : List V} {fk lg bg : Int} {liv run : List (Key × V)} (S : HsAt C H p dW dK dL dR kvs kept fk lg bg liv run) (hB : Bag H b) (fr : Tc.Fr b H H') (n : dK ≠ b) : HsAt C H' p dW dK dL dR kvs kept fk lg bg liv run := by
  obtain ⟨x, y, hb, _⟩ := hB
  obtain ⟨dx, hp⟩ := S.ob
  have ne : ∀ {a : Addr} {o : HO}, H a = some o → (∀ ys, o ≠ .lst ys) → a ≠ b := fun h z e => by
    rw [e, hb] at h
    exact z _ (Option.some.inj h).symm
  exact ⟨⟨dx, fr.at hp (ne hp fun _ z => by cases z)⟩, fr.at S.wo (ne S.wo fun _ z => by cases z), fr.at S.ke n, fr.at S.li (ne S.li fun _ z => by cases z), fr.at S.ru (ne S.ru fun _ z => by cases z), S.n1, S.n2, S.n3⟩
/-- what a turn of the law holds -/
structure LS (K : PySem.W.Frag) (C : Addr) (H0 : Hp) (n : Nat) (b lk p dW dK dL dR rd lg : Addr) (ks : List Int) (kvs rkv : List (Key × V)) (kept us : List V) (ds es : List PyData) (f g : Int → Option Int) (H : Hp) : Prop where
  x0 : Ex H0 H
  bag : Bag H b
  nb : H0 b = none
  ky : KeysAt b H lk ks
  hs : HsAt C H p dW dK dL dR kvs kept 0 0 0 [] []
  di : DI allK kvs f
  ro : H rd = some (.dK rkv)
  dr : DI allK rkv g
  lo : H lg = some (.lst us)
  d1 : DpAll K H us es
  d2 : DpAll K H kept ds
  gr : ∀ d ∈ ds, goodEn allK d = true
  ge : ∀ d ∈ es, goodEn allK d = true
  few : kept.length ≤ n
  np : H0 p = none
  nK : H0 dK = none
  nL : H0 lg = none
  kb : dK ≠ b
  lb : lg ≠ b
  lK : lg ≠ dK
  kK : lk ≠ dK
  kL : lk ≠ lg
section
variable {K : PySem.W.Frag} {C : Addr} {H0 : Hp} {n : Nat} {b lk p dW dK dL dR rd lg : Addr} {ks : List Int} {kvs rkv : List (Key × V)} {kept us : List V} {ds es : List PyData} {f g : Int → Option Int} {H H' : Hp}
theorem LS.ex (S : LS K C H0 n b lk p dW dK dL dR rd lg ks kvs rkv kept us ds es f g H) (x : Ex H H') : LS K C H0 n b lk p dW dK dL dR rd lg ks kvs rkv kept us ds es f g H' :=
  ⟨S.x0.trans x, (Fr.ex S.bag x).bag, S.nb, S.ky.fr (Fr.ex S.bag x), S.hs.ex x, S.di, x _ _ S.ro, S.dr, x _ _ S.lo, dps_same x _ _ S.d1, dps_same x _ _ S.d2, S.gr, S.ge, S.few, S.np, S.nK, S.nL, S.kb, S.lb, S.lK, S.kK, S.kL⟩
theorem LS.fr (S : LS K C H0 n b lk p dW dK dL dR rd lg ks kvs rkv kept us ds es f g H) (fr : Tc.Fr b H H') : LS K C H0 n b lk p dW dK dL dR rd lg ks kvs rkv kept us ds es f g H' := by
  have kt := Kt.fr S.bag fr
  have rb : rd ≠ b := fun z => by
    obtain ⟨x, y, hb, _⟩ := S.bag
    have := S.ro
    rw [z, hb] at this
    cases this
  exact ⟨fun a o h => fr.at (S.x0 a o h) (ne_of_none h S.nb), fr.bag, S.nb, S.ky.fr fr, HsAt.fr S.hs S.bag fr S.kb, S.di, fr.at S.ro rb, S.dr, fr.at S.lo S.lb, kt.dps (fun d m => nl_en (S.ge d m)) S.d1, kt.dps (fun d m => nl_en (S.gr d m)) S.d2, S.gr, S.ge, S.few, S.np, S.nK, S.nL, S.kb, S.lb, S.lK, S.kK, S.kL⟩
theorem LS.up (S : LS K C H0 n b lk p dW dK dL dR rd lg ks kvs rkv kept us ds es f g H) : LS K C H0 (n + 1) b lk p dW dK dL dR rd lg ks kvs rkv kept us ds es f g H := ⟨S.x0, S.bag, S.nb, S.ky, S.hs, S.di, S.ro, S.dr, S.lo, S.d1, S.d2, S.gr, S.ge, Nat.le_succ_of_le S.few, S.np, S.nK, S.nL, S.kb, S.lb, S.lK, S.kK, S.kL⟩
end
section
variable {K : PySem.W.Frag} {C : Addr} {H0 : Hp} {n : Nat} {b lk p dW dK dL dR rd lg : Addr} {ks : List Int} {kvs rkv : List (Key × V)} {kept us : List V} {ds es : List PyData} {f g : Int → Option Int} {H H' : Hp}
/-- the law's log made longer -/
theorem LS.app {x : V} {d : PyData} (S : LS K C H0 n b lk p dW dK dL dR rd lg ks kvs rkv kept us ds es f g H) (hx : Dp K H x d) (hg : goodEn allK d = true) : LS K C H0 n b lk p dW dK dL dR rd lg ks kvs rkv kept (us ++ [x]) ds (es ++ [d]) f g (upd H lg (.lst (us ++ [x]))) := by
  have bar : Bar lg H (upd H lg (.lst (us ++ [x]))) := (Bar.refl lg H).put
  have kt := Kt.barL S.lo bar
  have ne : ∀ {a : Addr} {o : HO}, H a = some o → (∀ ys, o ≠ .lst ys) → a ≠ lg := fun h z e => by
    rw [e, S.lo] at h
    exact z _ (Option.some.inj h).symm
  obtain ⟨dx, hp⟩ := S.hs.ob
  refine ⟨fun a o h => bar a o (ne_of_none h S.nL) (S.x0 a o h), ?_, S.nb, ⟨S.ky.ne, bar _ _ S.kL S.ky.h, S.ky.bd, S.ky.few, S.ky.some⟩, ⟨⟨dx, bar _ _ (ne hp fun _ z => by cases z) hp⟩, bar _ _ (ne S.hs.wo fun _ z => by cases z) S.hs.wo, bar _ _ S.lK.symm S.hs.ke, bar _ _ (ne S.hs.li fun _ z => by cases z) S.hs.li, bar _ _ (ne S.hs.ru fun _ z => by cases z) S.hs.ru, S.hs.n1, S.hs.n2, S.hs.n3⟩, S.di, bar _ _ (ne S.ro fun _ z => by cases z) S.ro, S.dr, upd_same, dps_app (kt.dps (fun d m => nl_en (S.ge d m)) S.d1) (.cons (kt.dp 3 _ _ (nl_en hg) hx) .nil), kt.dps (fun d m => nl_en (S.gr d m)) S.d2, S.gr, ?_, S.few, S.np, S.nK, S.nL, S.kb, S.lb, S.lK, S.kK, S.kL⟩
  · obtain ⟨x1, y1, hb, r⟩ := S.bag
    exact ⟨x1, y1, bar _ _ S.lb.symm hb, r⟩
  · intro e m
    rcases List.mem_append.mp m with m | m
    · exact S.ge e m
    · rw [List.mem_singleton.mp m]
      exact hg
/-- other rows -/
theorem LS.rows {rd' : Addr} {rkv' : List (Key × V)} {g' : Int → Option Int} (S : LS K C H0 n b lk p dW dK dL dR rd lg ks kvs rkv kept us ds es f g H) (h : H rd' = some (.dK rkv')) (di : DI allK rkv' g') : LS K C H0 n b lk p dW dK dL dR rd' lg ks kvs rkv' kept us ds es f g' H :=
  ⟨S.x0, S.bag, S.nb, S.ky, S.hs, S.di, h, di, S.lo, S.d1, S.d2, S.gr, S.ge, S.few, S.np, S.nK, S.nL, S.kb, S.lb, S.lK, S.kK, S.kL⟩
/-- the house changed -/
theorem LS.done {dW' e : Addr} {kvs' : List (Key × V)} {f' : Int → Option Int} {d : PyData} (S : LS K C H0 n b lk p dW dK dL dR rd lg ks kvs rkv kept us ds es f g H) (off : ∀ a o, a ≠ p → a ≠ dK → H a = some o → H' a = some o) (S' : HsAt C H' p dW' dK dL dR kvs' (kept ++ [.ref e]) 0 0 0 [] []) (di : DI allK kvs' f') (he : Dp K H' (.ref e) d) (hg : goodEn allK d = true) : LS K C H0 (n + 1) b lk p dW' dK dL dR rd lg ks kvs' rkv (kept ++ [.ref e]) us (ds ++ [d]) es f' g H' := by
  obtain ⟨dx, hp⟩ := S.hs.ob
  have kt : Kt H H' := by
    refine Kt.but (fun a => a = p ∨ a = dK) (fun a z => ?_) fun a o z h => off a o (fun y => z (.inl y)) (fun y => z (.inr y)) h
    rcases z with rfl | rfl
    · exact ⟨_, hp, (fun xs z => by cases z), fun o xs z => by cases z⟩
    · exact ⟨_, S.hs.ke, (fun xs z => by cases z), fun o xs z => by cases z⟩
  have nP : ∀ {a : Addr} {o : HO}, H a = some o → (∀ y z, o ≠ .ins C y z) → a ≠ p := fun h z e => by
    rw [e, hp] at h
    exact z _ _ (Option.some.inj h).symm
  obtain ⟨x1, y1, hb, r⟩ := S.bag
  refine ⟨fun a o h => off a o (ne_of_none h S.np) (ne_of_none h S.nK) (S.x0 a o h), ⟨x1, y1, off _ _ (nP hb fun _ _ z => by cases z) S.kb.symm hb, r⟩, S.nb, ⟨S.ky.ne, off _ _ (nP S.ky.h fun _ _ z => by cases z) S.kK S.ky.h, S.ky.bd, S.ky.few, S.ky.some⟩, S', di, off _ _ (nP S.ro fun _ _ z => by cases z) (fun z => ?_) S.ro, S.dr, off _ _ (nP S.lo fun _ _ z => by cases z) S.lK S.lo, kt.dps (fun d m => nl_en (S.ge d m)) S.d1, dps_app (kt.dps (fun d m => nl_en (S.gr d m)) S.d2) (.cons he .nil), ?_, S.ge, by rw [List.length_append]; exact Nat.succ_le_succ S.few, S.np, S.nK, S.nL, S.kb, S.lb, S.lK, S.kK, S.kL⟩
  · have := S.ro
    rw [z, S.hs.ke] at this
    cases this
  · intro x m
    rcases List.mem_append.mp m with m | m
    · exact S.gr x m
    · rw [List.mem_singleton.mp m]
      exact hg
end
theorem ne_if {K : PySem.W.Frag} {D : Ends} {σ : L2.St} {H : Hp} {x y : V} {d : PyData} {n : Nat} {tu tw : TS} (h1 : Dp K H x d) (h2 : Dp K H y d) (hs : sd n d = true) (hn : n ≤ 64) (q : tw D σ H) : rNeD K x y H (fun z H3 => ∃ k, z = .bl k ∧ (if k = true then tu D σ H3 else tw D σ H3)) :=
  ⟨d, d, h1, h2, sd_sh hs hn, sd_sh hs hn, _, rfl, by rw [sd_eq hs]; exact q⟩
theorem table_ok {rs : List (Int × Int)} (h : RsOk rs) : isTable (rowsD rs) = true := by
  have go : ∀ (rs : List (Int × Int)) (l : Int), (rs.Pairwise fun x y => x.1 < y.1) → (∀ r ∈ rs, l ≤ r.1 ∧ 0 ≤ r.1 ∧ r.1 < 1000 ∧ 0 ≤ r.2 ∧ r.2 < 1000) → rising l (rs.map Tc.pairD) = true := fun rs => by
    induction rs with
    | nil => exact fun _ _ _ => rfl
    | cons r rs ih =>
      intro l up inn
      obtain ⟨u1, u2⟩ := List.pairwise_cons.mp up
      have hr := inn r List.mem_cons_self
      rw [List.map_cons, rising, ih (keyOf (Tc.pairD r) + 1) u2 fun s m => ⟨by have := u1 s m; show r.1 + 1 ≤ s.1; omega, (inn s (List.mem_cons_of_mem _ m)).2⟩]
      have k1 : isRow (Tc.pairD r) = true := by
        show ((decide (0 ≤ r.1) && decide (r.1 < 1000)) && (decide (0 ≤ r.2) && decide (r.2 < 1000))) = true
        rw [decide_eq_true hr.2.1, decide_eq_true hr.2.2.1, decide_eq_true hr.2.2.2.1, decide_eq_true hr.2.2.2.2]
        rfl
      have k2 : decide (l ≤ keyOf (Tc.pairD r)) = true := decide_eq_true hr.1
      rw [k1, k2]
      rfl
  show (decide ((rs.map Tc.pairD).length ≤ 100) && rising 0 (rs.map Tc.pairD)) = true
  rw [go rs 0 h.up fun r m => ⟨(h.inn r m).1, h.inn r m⟩, decide_eq_true (by rw [List.length_map]; exact h.few)]
  rfl
theorem rowsD_inj {a b : List (Int × Int)} (h : rowsD a = rowsD b) : a = b := by
  have h1 : a.map Tc.pairD = b.map Tc.pairD := PyData.tuple.inj h
  refine List.map_inj_right (f := Tc.pairD) (fun x y e => ?_) |>.mp h1
  have := PyData.tuple.inj e
  simp only [List.cons.injEq, PyData.int.injEq, and_true] at this
  exact Prod.ext this.1 this.2
theorem gd_ch {ks : List Int} {d : PyData} (hk : ∀ k ∈ ks, 0 ≤ k ∧ k < 1000) (h : goodCh ks d = true) : gd 0 1 d = true := by
  rcases ch_kindW h with ⟨k, rfl, m⟩ | ⟨k, z, rfl, m, hz⟩
  · have := hk k m
    refine gd_tup.mpr ⟨by simp, fun e me => ?_⟩
    simp only [List.mem_cons, List.not_mem_nil, or_false] at me
    rcases me with rfl | rfl
    · decide +kernel
    · exact gd_int.mpr (by omega)
  · have := hk k m
    refine gd_tup.mpr ⟨by simp, fun e me => ?_⟩
    simp only [List.mem_cons, List.not_mem_nil, or_false] at me
    rcases me with rfl | rfl | rfl
    · decide +kernel
    · exact gd_int.mpr (by omega)
    · exact gd_int.mpr (by omega)
/-- the table of every second key -/
def evens (n : Nat) : List (Int × Int) := (List.range n).map fun (i : Nat) => (2 * (i : Int), 5)
theorem evens_snoc (n : Nat) : evens (n + 1) = evens n ++ [(2 * (n : Int), 5)] := by
  unfold evens
  rw [List.range_succ, List.map_append]
  rfl
theorem evens_ok {n : Nat} (h : n ≤ 100) : RsOk (evens n) := by
  refine ⟨?_, fun r m => ?_, by unfold evens; rw [List.length_map, List.length_range]; exact h⟩
  · unfold evens
    rw [List.pairwise_map]
    exact List.pairwise_lt_range.imp fun {a b} z => by show 2 * (a : Int) < 2 * (b : Int); omega
  · obtain ⟨i, mi, rfl⟩ := List.mem_map.mp m
    have := List.mem_range.mp mi
    exact ⟨by show 0 ≤ 2 * (i : Int); omega, by show 2 * (i : Int) < 1000; omega, by show (0 : Int) ≤ 5; decide, by show (5 : Int) < 1000; decide⟩
section
variable {P : Program} {w : World} {K : PySem.W.Frag} {mg : Str → Option Value} {base : Heap}
def spLaw (K : PySem.W.Frag) : Sp := fun vs H Q _ => ∃ (a : Addr) (ns : List Int), vs = [.ref a] ∧ SqL K H a (ns.map V.int) ∧ ns.length ≤ 63 ∧ ∀ H', Q (.bl true) H'
theorem ev_min2 {σ : L2.St} {H : Hp} {ta tb : TE} {i j : Int} (ha : Ev ta σ H (.int i)) (hb : Ev tb σ H (.int j)) : Ev (tCB (fun xs H Q => ∃ i j, xs = [.int i, .int j] ∧ Q (.int (if j < i then j else i)) H) (tCons ta (tCons tb tNil))) σ H (.int (if j < i then j else i)) :=
  ev_cb (ea_cons ha (ea_cons hb ea_nil)) fun H1 _ _ q => ⟨i, j, rfl, q H1 (Ex.refl H1)⟩
theorem sok_one {b : Addr} {H : Hp} (h : Bag H b) : Sok (fun a => a = b) b H := ⟨rfl, fun a m => by
  obtain ⟨x, y, hb, _⟩ := h
  rw [m, hb]
  exact fun z => nomatch z⟩
theorem dp_cut {b : Addr} {H : Hp} {v : V} {d : PyData} (h : Dp K (hid b H) v d) : Dp K (cut (fun a => a = b) H) v d := by
  rw [cut_hid]
  exact h
theorem dp_hid {b : Addr} {H : Hp} {v : V} {d : PyData} (h : Dp K (cut (fun a => a = b) H) v d) : Dp K (hid b H) v d := by
  rw [cut_hid] at h
  exact h
theorem dict_di {K : PySem.W.Frag} {H : Hp} {p : Addr} {rs : List (Int × Int)} {ks : List Int} {Q : VK} (h : TP K H p rs) (hk : ∀ r ∈ rs, r.1 ∈ ks) (q : ∀ D kvs, H D = none → DI ks kvs (fRows rs) → Q (.ref D) (upd H D (.dK kvs))) : rDictT K [.ref p] H Q := by
  obtain ⟨xs, hp, hA⟩ := h
  obtain ⟨ps, rfl, hP⟩ := pairs_dp hA
  exact ⟨p, ps, _, rfl, hp, hP, fun D hD => q D _ hD (merge_rows rs [] (fun _ => none) hk DI.nil)⟩
/-- dict(told) -/
theorem dict_told {H : Hp} {σ : L2.St} {pr : Addr} {rws : List (Int × Int)} {ks : List Int} {i : Nat} {Q : VK} (hv : σ[i]? = some (some (.ref pr))) (h : TP K H pr rws) (hk : ∀ r ∈ rws, r.1 ∈ ks) (q : ∀ D kvs, H D = none → DI ks kvs (fRows rws) → Q (.ref D) (upd H D (.dK kvs))) : tCB (rDictT K) (tCons (tVar i) tNil) σ H Q := ⟨.ref pr, hv, dict_di h hk q⟩
set_option maxHeartbeats 4000000 in
theorem ok_law {f C CT fI : Addr} {fd fdI : FuncData} {kI kTa kPl kEn kT kO kS kB kTab kKs kCh kAc kDn kPs kTr k : Nat} (F : Fun K "law" "law" sLaw f fd) (N : Names mg) (T : HTx K mg C) (mkH : Mk K C fI) (FI : FnOk P w K mg base (L2N.CX P w) kI fI fdI ["self", "table"] (spHInit K C CT)) (hI : kI + 1 ≤ k) (bI : Binds K fdI ["self", "table"] [])
    (dTa : MethX P w K mg base C "table" ["self"] kTa (spHTab K C)) (hTa : kTa ≤ k) (dPl : MethX P w K mg base C "places" ["self"] kPl (spHPl C)) (hPl : kPl ≤ k) (dEn : MethXN P w K mg base C "entries" ["self", "place", "many"] 1 ["many"] kEn (spHEn C)) (hEn : kEn ≤ k) (dT : Own P w K mg base "_law_take" ["bag", "man1"] kT spTake) (hT : kT ≤ k) (dO : Own P w K mg base "_law_odd" ["bag"] kO (spNew K (gd 0 3))) (hO : kO ≤ k) (dS : Own P w K mg base "_law_spoilt" ["bag", "thing"] kS (spSpU K)) (hS : kS ≤ k) (dB : Own P w K mg base "_law_bag" ["script", "k"] kB (spBag K)) (hB : kB ≤ k) (dTab : Own P w K mg base "_law_table" ["bag", "keys"] kTab (spTabR K)) (hTab : kTab ≤ k) (dKs : Own P w K mg base "_law_keys" ["bag"] kKs spKeysR) (hKs : kKs ≤ k) (dCh : Own P w K mg base "_law_changes" ["bag", "keys", "most"] kCh (spChsL K)) (hCh : kCh ≤ k) (dAc : Own P w K mg base "_law_are_changes" ["thing"] kAc (spTold K isGr)) (hAc : kAc ≤ k) (dDn : Own P w K mg base "_law_done" ["rows", "changes"] kDn (spDone K)) (hDn : kDn ≤ k) (dPs : Own P w K mg base "_law_pairs" ["rows"] kPs (spPairs K)) (hPs : kPs ≤ k) (dTr : Own P w K mg base "_law_house_tried" ["house", "step"] kTr (spTried K C)) (hTr : kTr ≤ k) : FnOk P w K mg base CX0 (k + 1) f fd ["script"] (spLaw K) := by
  refine F.ok scLaw (fun vs H Q E h => ?_) (fun cdv A outer s H vs Q E hr h => ?_)
  · obtain ⟨a, ns, rfl, _⟩ := h
    rfl
  · obtain ⟨a, ns, rfl, hA, hn, q⟩ := h
    refine ⟨_, pss_cons (ps_for PassesOwn.never rfl (pi_range1 rfl N.range (pa_cons (pe_op op_add pe_int (pe_callB (call_min2 rfl) (by rfl) N.min boot_min (pa_cons (pe_callB call_len_seq (by rfl) N.len PySem.boot_len (pa_cons (pv 0) pa_nil)) (pa_cons pe_int pa_nil)))) pa_nil)) (pg_name (i := 1) scLaw.nd rfl (.inl rfl)) (pss_cons (ps_set (i := 2) scLaw.nd rfl (.inl rfl) (pe_own dB hr hB (by rfl) (pa_cons (pv 0) (pa_cons (pv 1) pa_nil))))
      (pss_cons (ps_set (i := 3) scLaw.nd rfl (.inl rfl) (pe_own dKs hr hKs (by rfl) (pa_cons (pv 2) pa_nil)))
      (pss_cons (ps_set (i := 4) scLaw.nd rfl (.inl rfl) (pe_own dTab hr hTab (by rfl) (pa_cons (pv 2) (pa_cons (pv 3) pa_nil))))
      (pss_cons (ps_if (pt_cmpR op_eq (pe_own dT hr hT (by rfl) (pa_cons (pv 2) (pa_cons pe_int pa_nil))) pe_int (nomark _)) (pss_cons (ps_set (i := 4) scLaw.nd rfl (.inl rfl) (pe_callTy cr_tupP (by rfl) N.tuple boot_tuple (pa_cons (pe_lc (own := [("at", 12)]) (g := gName 12) (tt := tYes) (te := tTup (tCons (tOp (rI CMul fun i j => .int (i * j)) (tC (.int 2)) (tVar 12)) (tCons (tC (.int 5)) tNil))) rfl scLaw.nd (pi_range1 rfl N.range (pa_cons (pe_op op_add pe_int (pe_own dT hr hT (by rfl) (pa_cons (pv 2) (pa_cons pe_int pa_nil)))) pa_nil)) (blkOk_by (N := ["script", "k", "bag", "keys", "table", "house", "rows", "log", "turn", "changes", "due", "new", "at"]) (sc := defScope sLaw) (by decide +kernel)) (fun _ _ _ _ _ => pg_name (i := 12) scLaw.nd rfl (Or.inl rfl)) (fun _ _ _ _ _ => pts_nil) (fun _ _ _ _ _ => (pe_tup (pa_cons (pe_op op_mul pe_int (pv 12)) (pa_cons pe_int pa_nil))))) pa_nil)))
      (pss_one (ps_set (i := 3) scLaw.nd rfl (.inl rfl) (pe_lst (pa_cons pe_int (pa_cons pe_int (pa_cons pe_int (pa_cons pe_int (pa_cons pe_int (pa_cons pe_int (pa_cons pe_int pa_nil))))))))))) pss_nil)
      (pss_cons (ps_set (i := 5) scLaw.nd rfl (.inl rfl) (pe_makeX mkH FI none_out hr hI (by rfl) T.mgC bI .nil (pa_cons (pv 4) pa_nil)))
      (pss_cons (ps_set (i := 6) scLaw.nd rfl (.inl rfl) (pe_callTy (cr_dictT rfl) (by rfl) N.dict boot_dict (pa_cons (pv 4) pa_nil)))
      (pss_cons (ps_set (i := 7) scLaw.nd rfl (.inl rfl) (pe_lst pa_nil))
      (pss_one (ps_for PassesOwn.never rfl (pi_range1 rfl N.range (pa_cons (pe_own dT hr hT (by rfl) (pa_cons (pv 2) (pa_cons pe_int pa_nil))) pa_nil)) (pg_name (i := 8) scLaw.nd rfl (.inl rfl)) (pss_cons (ps_set (i := 9) scLaw.nd rfl (.inl rfl) (pe_own dCh hr hCh (by rfl) (pa_cons (pv 2) (pa_cons (pv 3) (pa_cons pe_int pa_nil)))))
      (pss_cons (ps_if (pt_cmpR op_eq (pe_own dT hr hT (by rfl) (pa_cons (pv 2) (pa_cons pe_int pa_nil))) pe_int (nomark _)) (pss_one (ps_set (i := 9) scLaw.nd rfl (.inl rfl) (pe_own dS hr hS (by rfl) (pa_cons (pv 2) (pa_cons (pv 9) pa_nil))))) pss_nil)
      (pss_cons (ps_if (pt_cmpR op_eq (pe_own dT hr hT (by rfl) (pa_cons (pv 2) (pa_cons pe_int pa_nil))) pe_int (nomark _)) (pss_one (ps_set (i := 9) scLaw.nd rfl (.inl rfl) (pe_own dO hr hO (by rfl) (pa_cons (pv 2) pa_nil)))) pss_nil)
      (pss_cons (ps_set (i := 10) scLaw.nd rfl (.inl rfl) (pe_tup (pa_cons pe_non (pa_cons pe_str (pa_cons pe_non pa_nil)))))
      (pss_cons (ps_if (pt_val (pe_own dAc hr hAc (by rfl) (pa_cons (pv 9) pa_nil))) (pss_cons (ps_set (i := 11) scLaw.nd rfl (.inl rfl) (pe_callTy call_dictD (by rfl) N.dict boot_dict (pa_cons (pv 6) pa_nil)))
      (pss_cons (ps_expr (pe_own dDn hr hDn (by rfl) (pa_cons (pv 11) (pa_cons (pv 9) pa_nil))))
      (pss_cons (ps_set (i := 10) scLaw.nd rfl (.inl rfl) (pe_tup (pa_cons pe_non (pa_cons pe_str (pa_cons (pe_callB call_lenD (by rfl) N.len PySem.boot_len (pa_cons (pv 11) pa_nil)) pa_nil)))))
      (pss_one (ps_if (pt_cmpR op_le (pe_callB call_lenD (by rfl) N.len PySem.boot_len (pa_cons (pv 11) pa_nil)) pe_int (nomark _)) (pss_cons (ps_set (i := 10) scLaw.nd rfl (.inl rfl) (pe_tup (pa_cons pe_non (pa_cons pe_str (pa_cons pe_non pa_nil)))))
      (pss_cons (ps_set (i := 6) scLaw.nd rfl (.inl rfl) (pv 11))
      (pss_one (ps_expr (pe_bm PySem.F.plainAttrs_list PySem.F.slot_list_append PySem.F.type_list_append mt_append (pv 7) (pa_cons (pe_tup (pa_cons pe_str (pa_cons (pv 9) pa_nil))) pa_nil)))))) pss_nil))))) pss_nil)
      (pss_cons (ps_if (pt_cmpR (op_neD hr.units) (pe_own dTr hr hTr (by rfl) (pa_cons (pv 5) (pa_cons (pe_tup (pa_cons pe_str (pa_cons (pv 9) pa_nil))) pa_nil))) (pv 10) (nomark _)) (pss_one (ps_ret pe_bl)) pss_nil)
      (pss_cons (ps_if (PW.pt (pw_or (pt_cmpR (op_neD hr.units) (pe_methX0 dTa none_out hr hTa T.cl (pv 5)) (pe_own dPs hr hPs (by rfl) (pa_cons (pv 6) pa_nil)) (nomark _)) (pw_or1 (pt_cmpR (op_neD hr.units) (pe_methX0 dPl none_out hr hPl T.cl (pv 5)) (pe_tup (pa_cons pe_int (pa_cons (pe_callB call_len_seq (by rfl) N.len PySem.boot_len (pa_cons (pv 7) pa_nil)) pa_nil))) (nomark _))))) (pss_one (ps_ret pe_bl)) pss_nil)
      (pss_one (ps_if (pt_cmpR (op_neD hr.units) (pe_methXN dEn none_out hr hEn T.cl (pv 5) (pa_cons pe_int pa_nil) (pk_cons pe_int pk_nil)) (pv 7) (nomark _)) (pss_one (ps_ret pe_bl)) pss_nil)))))))))))))))))))
      (pss_one (ps_ret pe_bl)), ?_⟩
    have hmn : 0 ≤ 1 + (if (8 : Int) < ((ns.map V.int).length : Int) then (8 : Int) else ((ns.map V.int).length : Int)) ∧ 1 + (if (8 : Int) < ((ns.map V.int).length : Int) then (8 : Int) else ((ns.map V.int).length : Int)) ≤ 100 := by
      split <;> omega
    refine s_seq (s_forR1 (n := 1 + (if (8 : Int) < ((ns.map V.int).length : Int) then (8 : Int) else ((ns.map V.int).length : Int))) (ea_cons (ev_op ev_c (ev_min2 (ev_len (ev_var rfl) hA) ev_c) rv_add) ea_nil) ⟨hmn.1, by omega⟩
      (fun i σ' H' => ∃ y1 y2 y3 y4 y5 y6 y7 y8 y9 y10 y11 y12, σ' = [some (.ref a), y1, y2, y3, y4, y5, y6, y7, y8, y9, y10, y11, y12] ∧ SqL K H' a (ns.map V.int)) (fun H1 x1 => ⟨none, none, none, none, none, none, none, none, none, none, none, none, rfl, ex_l x1 hA⟩) (fun i σ' H0 hi p => ?_) (fun σ' H' p => ?_))
    · obtain ⟨y1, y2, y3, y4, y5, y6, y7, y8, y9, y10, y11, y12, rfl, hA'⟩ := p
      have hi2 : i ≤ 1000 := by omega
      refine s_seq ⟨.ref a, rfl, .int (i : Int), rfl, a, ns, i, rfl, hA', hi2, fun b H1 nb x1 hB1 => ?_⟩
      refine g_name (s_seq ⟨.ref b, rfl, b, rfl, hB1, fun lk ks H2 f2 ky k64 kup => g_name ?_⟩)
      try dsimp only
      refine s_seq ⟨.ref b, rfl, .ref lk, rfl, b, lk, ks, rfl, f2.bag, ky, fun tb rs H3 f3 tp rk rw' rl rup => g_name ?_⟩
      have f13 := f2.trans f3
      try dsimp only
      refine seq_mid (fun σ' G => ∃ lk ks tb rs z12, σ' = [some (.ref a), some (.int (i : Int)), some (.ref b), some (.ref lk), some (.ref tb), y5, y6, y7, y8, y9, y10, y11, z12] ∧ Ex H0 G ∧ Bag G b ∧ KeysAt b G lk ks ∧ TP K G tb rs ∧ RsOk rs) (fun go => ?_) fun σ' G hR => ?_
      · refine s_seq (if_draw (b := b) f13.bag rfl (by decide) (by decide) (fun H4 f4 => ?_) fun H4 f4 => s_next (go _ _ ⟨lk, ks, tb, rs, _, rfl, ?_, ?_⟩))
        · have f14 := f13.trans f4
          refine s_seq ?_
          refine take_of (b := b) (m := 6) f14.bag (ea_cons (ev_var rfl) (ea_cons ev_c ea_nil)) (by decide) (by decide) fun r H5 f5 r0 r1 => ⟨95, r, rfl, rfl, 95 + r, rfl, by omega, by omega, fun D hD => ?_⟩
          have f15 := f14.trans f5
          refine lc_range (lo := 0) (n := (95 + r).toNat) (ColW b K (fun j ds => ds = (evens j).map Tc.pairD) H5 D) (ColW.start f15.bag hD rfl) (fun j G hj c => ⟨rfl, iteT (B := ColW b K (fun j ds => ds = (evens j).map Tc.pairD) H5 D (j + 1) G) ?_⟩) (fun G c => ?_)
          · refine ⟨.int (0 + (j : Int)), rfl, 2, 0 + (j : Int), rfl, rfl, .inl ⟨by decide, by decide⟩, sz_of (by simp), fun p hp => ?_⟩
            exact c.push (Fr.new c.fr.bag hp) (dp_pair c.fr.bag c.at hp) (fun ds h => by rw [h, evens_snoc, List.map_append, Int.zero_add]; rfl) (by omega)
          · obtain ⟨vs, ds, h1, h2, h3, rfl⟩ := c.ex
            refine ⟨D, vs, rfl, sq_of h1, fun t o ht od => g_name ?_⟩
            try dsimp only
            have fA := f15.trans (c.fr.trans (Fr.new (o := .frz o (.tup vs)) c.fr.bag ht))
            have htp : TP K (upd G t (.frz o (.tup vs))) t (evens (95 + r).toNat) := ⟨vs, ⟨o, upd_same, od⟩, dps_same (Ex.new ht) _ _ (dps_same (hid_same b _) _ _ (dps_same (hid_same D _) _ _ h2))⟩
            generalize upd G t (.frz o (.tup vs)) = G2 at fA htp ⊢
            refine ⟨sz_of (by simp), fun l hl => go _ _ ⟨l, [1, 3, 5, 7, 9, 11, 2], t, evens (95 + r).toNat, _, rfl, ?_, (fA.trans (Fr.new fA.bag hl)).bag, ⟨fA.bag.ne hl, upd_same, by decide, by decide, by decide⟩, htp.same (Ex.new hl), evens_ok (by omega)⟩⟩
            exact fun c o h => (fA.trans (Fr.new fA.bag hl)).at (x1 c o h) (ne_of_none h nb)
        · exact fun c o h => (f13.trans f4).at (x1 c o h) (ne_of_none h nb)
        · refine ⟨(f13.trans f4).bag, (ky.fr f3).fr f4, ?_, ⟨rup kup, fun r m => ?_, by omega⟩⟩
          · exact (Kt.fr f13.bag f4).tp tp
          · have h1 := ky.bd _ (rk r m)
            have h2 := rw' r m
            exact ⟨h1.1, h1.2, h2.1, h2.2⟩
      · obtain ⟨lk, ks, tb, rs, z12, rfl, xG, hB, ky, tp, ok⟩ := hR
        refine s_seq ⟨.ref tb, rfl, fun p dx np ndx dp => ?_⟩
        have xb : Ex G (upd (upd G dx (.own p)) p (.ins C dx [])) := (Ex.new ndx).trans (Ex.new (by rw [upd_ne dp.symm]; exact np))
        refine ⟨p, dx, .ref tb, rowsD rs, rfl, upd_same, dp_same xb _ _ tp.dp, (fun bad => by rw [table_ok ok] at bad; cases bad), fun rs' dW dK dL dR kvs G2 e _ ok' keep S di nn => ⟨rfl, g_name ?_⟩⟩
        obtain rfl := rowsD_inj e
        have x2 : Ex G G2 := fun c o h => keep c o (ne_of_none h np) (xb c o h)
        try dsimp only
        refine s_seq (t_asg (dict_told (ks := allK) (K := K) rfl (tp.same x2) (fun r m => allK_mem (ok.inn r m).1 (ok.inn r m).2.1) fun rd rkv nrd dr => g_name ?_))
        have x3 := Ex.new (o := .dK rkv) nrd
        have hrd : (upd G2 rd (.dK rkv)) rd = some (.dK rkv) := upd_same
        generalize upd G2 rd (.dK rkv) = G3 at x3 hrd ⊢
        try dsimp only
        refine s_seq ⟨sz_of (by simp), fun lg nlg => g_name ?_⟩
        have x4 := Ex.new (o := .lst []) nlg
        have hlg : (upd G3 lg (.lst [])) lg = some (.lst []) := upd_same
        generalize upd G3 lg (.lst []) = G4 at x4 hlg ⊢
        have xA := (x2.trans x3).trans x4
        have S0 : LS K C H0 0 b lk p dW dK dL dR rd lg ks kvs rkv [] [] [] [] (fRows rs) (fRows rs) G4 := by
          obtain ⟨bx, bY, hb, br⟩ := hB
          have nK : G dK = none := fresh_back xb nn.2.1
          refine ⟨xG.trans xA, ⟨bx, bY, xA _ _ hb, br⟩, nb, ⟨ky.ne, xA _ _ ky.h, ky.bd, ky.few, ky.some⟩, S.ex (x3.trans x4), di, x4 _ _ hrd, dr, hlg, .nil, .nil, (fun d m => by cases m), (fun d m => by cases m), Nat.le_refl _, fresh_back xG np, fresh_back xG nK, fresh_back (xG.trans (x2.trans x3)) nlg, (ne_of_none hb nK).symm, (ne_of_none ((x2.trans x3) _ _ hb) nlg).symm, (ne_of_none (x3 _ _ S.ke) nlg).symm, ne_of_none ky.h nK, ne_of_none ((x2.trans x3) _ _ ky.h) nlg⟩
        try dsimp only
        refine for_draw (b := b) (fun n σ' G => ∃ dW rd kvs rkv kept us ds f z8 z9 z10 z11, σ' = [some (.ref a), some (.int (i : Int)), some (.ref b), some (.ref lk), some (.ref tb), some (.ref p), some (.ref rd), some (.ref lg), z8, z9, z10, z11, z12] ∧ LS K C H0 n b lk p dW dK dL dR rd lg ks kvs rkv kept us ds ds f f G) S0.bag rfl (by decide) (by decide) (fun G5 f5 => ⟨_, _, _, _, _, _, _, _, _, _, _, _, rfl, S0.fr f5⟩) (fun n σ' G hn hP => ?_) fun n σ' G hn hP => ?_
        · clear S0 xA x4 hlg x3 hrd x2 di dr nn keep S xb dp ndx np
          obtain ⟨dW, rd, kvs, rkv, kept, us, ds, f, z8, z9, z10, z11, rfl, S⟩ := hP
          try dsimp only
          refine s_seq ⟨.ref b, rfl, .ref lk, rfl, b, lk, ks, 6, (fun x => x = b), rfl, S.bag, sok_one S.bag, S.ky, by decide, by decide, fun v cs H2 f2 hd hg h6 => g_name ?_⟩
          try dsimp only
          have hgd : gd 0 2 (.tuple cs) = true := gd_tup.mpr ⟨by omega, fun d m => gd_ch S.ky.bd (hg d m)⟩
          have S2 := S.fr f2
          refine seq_mid (fun σ' G => ∃ v d, σ' = [some (.ref a), some (.int (i : Int)), some (.ref b), some (.ref lk), some (.ref tb), some (.ref p), some (.ref rd), some (.ref lg), some (.int (0 + (n : Int))), some v, z10, z11, z12] ∧ LS K C H0 n b lk p dW dK dL dR rd lg ks kvs rkv kept us ds ds f f G ∧ Dp K (hid b G) v d ∧ gd 1 5 d = true) (fun go => s_seq (if_draw (b := b) S2.bag rfl (by decide) (by decide) (fun H3 f3 => ?_) fun H3 f3 => s_next (go _ _ ⟨v, _, rfl, S2.fr f3, dp_same f3.sm _ _ (dp_hid hd), gd_le (gd_lc hgd (by decide)) (by decide)⟩))) fun σ' G hR => ?_
          · exact ⟨.ref b, rfl, v, rfl, 2, by omega, b, v, .tuple cs, (fun x => x = b), 0, rfl, f3.bag, sok_one f3.bag, dp_cut (dp_same f3.sm _ _ (dp_hid hd)), hgd, by omega, fun v2 d2 H4 f4 hd2 hg2 => g_name (go _ _ ⟨v2, d2, rfl, (S2.fr f3).fr f4, dp_hid hd2, hg2⟩)⟩
          clear S2 hgd hd hg h6 f2 S
          obtain ⟨v, d, rfl, S, hd, hgd⟩ := hR
          refine seq_mid (fun σ' G => ∃ v d, σ' = [some (.ref a), some (.int (i : Int)), some (.ref b), some (.ref lk), some (.ref tb), some (.ref p), some (.ref rd), some (.ref lg), some (.int (0 + (n : Int))), some v, z10, z11, z12] ∧ LS K C H0 n b lk p dW dK dL dR rd lg ks kvs rkv kept us ds ds f f G ∧ Dp K (hid b G) v d) (fun go => s_seq (if_draw (b := b) S.bag rfl (by decide) (by decide) (fun H3 f3 => ?_) fun H3 f3 => s_next (go _ _ ⟨v, _, rfl, S.fr f3, dp_same f3.sm _ _ hd⟩))) fun σ' G hR => ?_
          · exact ⟨.ref b, rfl, b, (fun x => x = b), rfl, f3.bag, sok_one f3.bag, fun v2 d2 H4 f4 hd2 hg2 => g_name (go _ _ ⟨v2, d2, rfl, (S.fr f3).fr f4, dp_hid hd2⟩)⟩
          clear hgd hd S
          obtain ⟨v, d, rfl, S, hd⟩ := hR
          replace hd := dp_same (hid_same b _) _ _ hd
          refine s_seq ⟨sz_of (by simp), fun t nt => g_name ?_⟩
          have x1' := Ex.new (o := .tup [.non, .str "told NoChange+", .non]) nt
          have ht : (upd G t (.tup [.non, .str "told NoChange+", .non])) t = some (.tup [.non, .str "told NoChange+", .non]) := upd_same
          replace S := S.ex x1'
          replace hd := dp_same x1' _ _ hd
          generalize upd G t (.tup [.non, .str "told NoChange+", .non]) = G1 at S hd ht ⊢
          clear x1' nt
          try dsimp only
          refine seq_mid (fun σ' G => ∃ rd' v d t z11', σ' = [some (.ref a), some (.int (i : Int)), some (.ref b), some (.ref lk), some (.ref tb), some (.ref p), some (.ref rd'), some (.ref lg), some (.int (0 + (n : Int))), some v, some (.ref t), z11', z12] ∧ Dp K G v d ∧
            ((isGr d = false ∧ rd' = rd ∧ LS K C H0 n b lk p dW dK dL dR rd lg ks kvs rkv kept us ds ds f f G ∧ G t = some (.tup [.non, .str "told NoChange+", .non])) ∨
             (isGr d = true ∧ rd' = rd ∧ LS K C H0 n b lk p dW dK dL dR rd lg ks kvs rkv kept us ds ds f f G ∧ ∃ kv2, DI allK kv2 (appl f (grD d)) ∧ 100 < kv2.length ∧ G t = some (.tup [.non, .str "told TooMany+", .int (kv2.length : Int)])) ∨
             (isGr d = true ∧ ∃ kv2 e, LS K C H0 n b lk p dW dK dL dR rd' lg ks kvs kv2 kept (us ++ [.ref e]) ds (ds ++ [.tuple [.str "group", d]]) f (appl f (grD d)) G ∧ kv2.length ≤ 100 ∧ G t = some (.tup [.non, .str "", .non])))) (fun go => ?_) fun σ' G hR => ?_
          · refine s_seq (s_if (b := isGr d) (et_B (ev_told (ev_var rfl) hd)) (fun gr H2 x2 => ?_) fun bad H2 x2 => s_next (go _ _ ⟨rd, v, d, t, _, rfl, dp_same x2 _ _ hd, .inl ⟨bad, rfl, S.ex x2, x2 _ _ ht⟩⟩))
            have S2 := S.ex x2
            have hd2 := dp_same x2 _ _ hd
            obtain ⟨cs, rfl, gc, c6⟩ := gr_good gr
            obtain ⟨va, vs, rfl, hva, hvs⟩ : ∃ va vs, v = .ref va ∧ SqT K H2 va vs ∧ DpAll K H2 vs cs := by
              cases hd2 with
              | tup h1 h2 => exact ⟨_, _, rfl, h1, h2⟩
            refine s_seq ⟨.ref rd, rfl, rd, rkv, rfl, .inl S2.ro, fun nd nnd => g_name ?_⟩
            have x3 := Ex.new (o := .dK rkv) nnd
            have h3 : (upd H2 nd (.dK rkv)) nd = some (.dK rkv) := upd_same
            generalize upd H2 nd (.dK rkv) = H3 at x3 h3 ⊢
            try dsimp only
            refine s_seq ⟨.ref nd, rfl, .ref va, rfl, nd, va, allK, rkv, f, vs, cs, rfl, h3, S2.dr, by rw [allK_len]; omega, Evl.ex_t x3 hva, dps_same x3 _ _ hvs, gc, fun kv2 H4 b4 h4 di4 => ?_⟩
            have x24 : Ex H2 H4 := fun c o h => b4 c o (ne_of_none h nnd) (x3 c o h)
            have S4 := S2.ex x24
            have hd4 := dp_same x24 _ _ hd2
            have lz : ∀ (σ : L2.St) (G : Hp), σ[11]? = some (some (.ref nd)) → Ex H4 G → Ev (tCB (fun xs H Q => ∃ a kvs, xs = [V.ref a] ∧ H a = some (.dK kvs) ∧ Q (.int kvs.length) H) (tCons (tVar 11) tNil)) σ G (.int (kv2.length : Int)) := fun σ G e x => ev_cb (ea_cons (ev_var e) ea_nil) fun G2 xG Q' q' => ⟨nd, kv2, rfl, xG _ _ (x _ _ h4), q' G2 (Ex.refl G2)⟩
            try dsimp only
            refine q_asgU (eu_tup (ea_cons ev_c (ea_cons ev_c (ea_cons (lz _ _ rfl (Ex.refl H4)) ea_nil))) (by simp)) fun t2 H5 _ x5 ht2 => ?_
            refine s_if (b := decide ((kv2.length : Int) ≤ 100)) (et_test (ev_op (lz _ _ rfl x5) ev_c rv_I0)) (fun z H6 x6 => ?_) fun z H6 x6 => s_next (go _ _ ⟨rd, _, _, t2, _, rfl, dp_same (x5.trans x6) _ _ hd4, .inr (.inl ⟨gr, rfl, S4.ex (x5.trans x6), kv2, di4, by have := of_decide_eq_false z; omega, x6 _ _ ht2⟩)⟩)
            have small : kv2.length ≤ 100 := by
              have := of_decide_eq_true z
              omega
            refine s_seq ⟨sz_of (by simp), fun t3 nt3 => g_name ?_⟩
            have x7 := Ex.new (o := .tup [.non, .str "", .non]) nt3
            have h7 : (upd H6 t3 (.tup [.non, .str "", .non])) t3 = some (.tup [.non, .str "", .non]) := upd_same
            generalize upd H6 t3 (.tup [.non, .str "", .non]) = H7 at x7 h7 ⊢
            try dsimp only
            have x47 := (x5.trans x6).trans x7
            refine q_asg (ev_var rfl) fun H8 x8 => ?_
            have x48 := x47.trans x8
            have S8 := (S4.ex x48).rows (x48 _ _ h4) di4
            try dsimp only
            refine s_appU (l := lg) S8.lo (ev_var rfl) (eu_tup (ea_cons ev_c (ea_cons (ev_var rfl) ea_nil)) (by simp)) (by have := dps_len S8.d1; have := dps_len S8.d2; have := S8.few; omega) fun e H9 _ x9 he => ?_
            have S9 := S8.ex x9
            have hd9 := dp_same (x48.trans x9) _ _ hd4
            have hde : Dp K H9 (.ref e) (.tuple [.str "group", .tuple cs]) := .tup (st_of he) (.cons (.str _) (.cons hd9 .nil))
            have gE : goodEn allK (.tuple [.str "group", .tuple cs]) = true := gq_group gc
            have S10 := S9.app hde gE
            have kt := Kt.barL S9.lo (Bar.put (o := .lst (us ++ [.ref e])) (Bar.refl lg H9))
            exact go _ _ ⟨nd, _, _, t3, _, rfl, kt.dp 2 _ _ (nl_gr gr) hd9, .inr (.inr ⟨gr, kv2, e, S10, small, kt _ _ ⟨_, .inl rfl⟩ (x9 _ _ (x8 _ _ h7))⟩)⟩
          clear hd ht S
          obtain ⟨rd', v, d, t, z11', rfl, hd, hR⟩ := hR
          refine seq_mid (fun σ' G => ∃ dW rd kvs rkv kept us ds f z11, σ' = [some (.ref a), some (.int (i : Int)), some (.ref b), some (.ref lk), some (.ref tb), some (.ref p), some (.ref rd), some (.ref lg), some (.int (0 + (n : Int))), some v, some (.ref t), z11, z12] ∧ LS K C H0 (n + 1) b lk p dW dK dL dR rd lg ks kvs rkv kept us ds ds f f G) (fun go => ?_) fun σ' G hR2 => ?_
          · have n21 : kept.length ≤ 10000 := by
              rcases hR with ⟨_, _, S, _⟩ | ⟨_, _, S, _⟩ | ⟨_, _, _, S, _⟩ <;> (have := S.few; omega)
            obtain ⟨S0, di0⟩ : HsAt C G p dW dK dL dR kvs kept 0 0 0 [] [] ∧ DI allK kvs f := by
              rcases hR with ⟨_, _, S, _⟩ | ⟨_, _, S, _⟩ | ⟨_, _, _, S, _⟩ <;> exact ⟨S.hs, S.di⟩
            refine s_seq ⟨.ref p, rfl, v, rfl, sz_of (by simp), fun sp nsp => ?_⟩
            have x2 := Ex.new (o := .tup [.str "change", v]) nsp
            have h2 : (upd G sp (.tup [.str "change", v])) sp = some (.tup [.str "change", v]) := upd_same
            generalize upd G sp (.tup [.str "change", v]) = G2 at x2 h2 ⊢
            refine ⟨p, dW, dK, dL, dR, kvs, kept, 0, 0, 0, [], [], f, v, d, sp, rfl, st_of h2, S0.ex x2, di0, dp_same x2 _ _ hd, n21, fun bad t2 H3 x3 h3 => ?_, fun gr kv3 di3 big t2 H3 x3 h3 => ?_, fun gr dW' e kv3 t2 H3 nW off S3 di3 small he h3 => ?_⟩
            · refine ⟨.ref t, rfl, ?_⟩
              rcases hR with ⟨_, rfl, S, hT⟩ | ⟨gr, _⟩ | ⟨gr, _⟩
              · have x23 := x2.trans x3
                exact ne_if (n := 1) (d := .tuple [.none, .str "told NoChange+", .none]) (.tup (st_of h3) (.cons .non (.cons (.str _) (.cons .non .nil)))) (.tup (st_of (x23 _ _ hT)) (.cons .non (.cons (.str _) (.cons .non .nil)))) (by decide +kernel) (by decide) (s_next (go _ _ ⟨_, _, _, _, _, _, _, _, _, rfl, (S.ex x23).up⟩))
              · rw [bad] at gr
                cases gr
              · rw [bad] at gr
                cases gr
            · refine ⟨.ref t, rfl, ?_⟩
              rcases hR with ⟨bad, _⟩ | ⟨_, rfl, S, kv2, di2, big2, hT⟩ | ⟨_, kv2, e, S, small, _⟩
              · rw [bad] at gr
                cases gr
              · have x23 := x2.trans x3
                rw [DI.same_len di3 di2] at h3
                exact ne_if (n := 1) (d := .tuple [.none, .str "told TooMany+", .int (kv2.length : Int)]) (.tup (st_of h3) (.cons .non (.cons (.str _) (.cons (.int _) .nil)))) (.tup (st_of (x23 _ _ hT)) (.cons .non (.cons (.str _) (.cons (.int _) .nil)))) (sd_3 (n := 0) rfl (by decide +kernel) rfl) (by decide) (s_next (go _ _ ⟨_, _, _, _, _, _, _, _, _, rfl, (S.ex x23).up⟩))
              · rw [DI.same_len di3 S.dr] at big
                omega
            · refine ⟨.ref t, rfl, ?_⟩
              rcases hR with ⟨bad, _⟩ | ⟨_, rfl, S, kv2, di2, big2, hT⟩ | ⟨_, kv2, e2, S, small2, hT⟩
              · rw [bad] at gr
                cases gr
              · rw [DI.same_len di3 di2] at small
                omega
              · have off' : ∀ c o, c ≠ p → c ≠ dK → G c = some o → H3 c = some o := fun c o n1 n2 h => off c o n1 n2 (x2 c o h)
                obtain ⟨cs, rfl, gc, c6⟩ := gr_good gr
                have S5 := S.done off' S3 di3 he (gq_group gc)
                obtain ⟨dx, hp⟩ := S.hs.ob
                have hT3 : H3 t = some (.tup [.non, .str "", .non]) := off' _ _ (fun z => by rw [z, hp] at hT; cases hT) (fun z => by rw [z, S.hs.ke] at hT; cases hT) hT
                exact ne_if (n := 1) (d := .tuple [.none, .str "", .none]) (.tup (st_of h3) (.cons .non (.cons (.str _) (.cons .non .nil)))) (.tup (st_of hT3) (.cons .non (.cons (.str _) (.cons .non .nil)))) (by decide +kernel) (by decide) (s_next (go _ _ ⟨_, _, _, _, _, _, _, _, _, rfl, S5⟩))
          clear hR hd
          obtain ⟨dW, rd, kvs, rkv, kept, us, ds, f, z11, rfl, S⟩ := hR2
          have lu : us.length = kept.length := (dps_len S.d1).trans (dps_len S.d2).symm
          have kf : kept.length ≤ 400 := by have := S.few; omega
          refine s_seq (s_if (b := false) (et_is (et_or (a := false) (fun G1 x1 Q' q' => ?_) fun _ => (fun G1 x1 Q' q' => ?_)) rfl) (fun z => by cases z) fun _ G2 x2 => s_next ?_)
          · refine ne_ex (n := 2) (fun d => ∃ js, KeysOf f js ∧ d = rowsD (rowsOf f js)) (fun Q2 q2 => ?_) (fun d G2 hd x2 Q2 q2 => ?_) (fun d ⟨js, _, e⟩ => e ▸ sd_rows _) (by decide) q'
            · have S1 := S.ex x1
              obtain ⟨dx, hp⟩ := S1.hs.ob
              exact ⟨.ref p, rfl, p, dx, _, rfl, hp, hfl_no _ _ _ _ _ _ _ (by decide +kernel), p, dW, dK, dL, dR, kvs, kept, 0, 0, 0, [], [], f, rfl, S1.hs, S1.di, fun t2 js H3 _ x3 kf tp => q2 _ _ _ x3 tp.dp ⟨js, kf, rfl⟩⟩
            · obtain ⟨js, kf, rfl⟩ := hd
              have S2 := S.ex (x1.trans x2)
              exact ⟨.ref rd, rfl, rd, allK, rkv, f, rfl, S2.ro, S2.dr, by rw [allK_len]; omega, fun t2 js' H3 _ x3 kf' _ tp => q2 _ _ x3 (by rw [KeysOf.one kf kf']; exact tp.dp)⟩
          · refine ne_sd (n := 1) (.tuple [.int 0, .int (kept.length : Int)]) (fun Q2 q2 => ?_) (fun G2 x2 Q2 q2 => ?_) rfl (by decide) q'
            · have S1 := S.ex x1
              obtain ⟨dx, hp⟩ := S1.hs.ob
              exact ⟨.ref p, rfl, p, dx, _, rfl, hp, hfl_no _ _ _ _ _ _ _ (by decide +kernel), p, dW, dK, dL, dR, kvs, kept, 0, 0, 0, [], [], rfl, S1.hs, fun t2 H3 _ x3 h3 => q2 _ _ x3 (.tup (st_of h3) (.cons (.int 0) (.cons (by rw [Int.zero_add]; exact .int _) .nil)))⟩
            · have S2 := S.ex (x1.trans x2)
              exact ⟨.ref lg, rfl, lg, us, rfl, .inl (sq_of S2.lo), sz_of (by simp), fun t2 nt2 => q2 _ _ (Ex.new nt2) (.tup (st_of upd_same) (.cons (.int 0) (.cons (by rw [lu]; exact .int _) .nil)))⟩
          have S2 := S.ex x2
          dsimp only
          refine s_if (b := false) (fun G3 x3 Q' q' => ?_) (fun z => by cases z) fun _ G3 x3 => s_next ?_
          rotate_left
          · exact ⟨_, _, _, _, _, _, _, _, _, _, _, _, rfl, S2.ex x3⟩
          refine ne_sd (n := 4) (.list ds) (fun Q2 q2 => ?_) (fun G4 x4 Q2 q2 => ?_) (sd_log S.gr) (by decide) q'
          · have S3 := S2.ex x3
            obtain ⟨dx, hp⟩ := S3.hs.ob
            refine ⟨.ref p, rfl, p, dx, _, rfl, hp, hfl_no _ _ _ _ _ _ _ (by decide +kernel), rfl, rfl, p, dW, dK, dL, dR, kvs, kept, 0, 0, 0, [], [], 0, 400, rfl, S3.hs, Nat.zero_le _, fun t2 H4 _ x4 h4 => ?_⟩
            rw [List.drop_zero, List.take_of_length_le kf] at h4
            exact q2 _ _ x4 (.lst (sq_of h4) (dps_same x4 _ _ S3.d2))
          · have S4 := S2.ex (x3.trans x4)
            exact ⟨.ref lg, rfl, q2 _ _ (Ex.refl G4) (.lst (sq_of S4.lo) S4.d1)⟩
        · obtain ⟨dW, rd, kvs, rkv, kept, us, ds, f, z8, z9, z10, z11, rfl, S⟩ := hP
          exact ⟨_, _, _, _, _, _, _, _, _, _, _, _, rfl, ex_l S.x0 hA'⟩
    · obtain ⟨y1, y2, y3, y4, y5, y6, y7, y8, y9, y10, y11, y12, rfl, hA'⟩ := p
      try dsimp only
      exact s_ret ev_c fun H2 x2 => q H2
end
end K13
namespace K13
open PySem L2 PyProof.Rows Tc Evl NdefX
abbrev cTooMany : Stmt := topS 12
abbrev mXTm : Stmt := inClass cTooMany 0
theorem scXTm : NScope ["self", "many", "__class__"] ["self", "many"] ["__class__"] (defScope mXTm) := nscope_by (by decide +kernel)
section
variable {P : Program} {w : World} {K : PySem.W.Frag} {mg : Str → Option Value} {base : Heap}
set_option maxHeartbeats 1000000 in
theorem ok_XTm {f C cc cda : Addr} {k : Nat} {dV kV doc pm ct oc : Value} {an od : Option Addr} {osl : Array (Option Value)} (lk : K.lookup f = some ⟨oc, od, .func (PySem.W.fnX "__init__" "TooMany.__init__" (defArgs mXTm) (defBody mXTm) (defScope mXTm) [("__class__", cc)] dV kV doc pm an (.ref cda) ct), osl⟩)
    (hcd : PySem.W.codeIn K (.ref cda) "TooMany.__init__" = true) (T : OexC K C) (hc : ∃ ol : Obj, K.lookup cc = some ol ∧ ol.data = .cell (some (.ref C))) (hno : PySem.W.findIn K (.ref C) "many" = some none) (Z : SupF P K mg C cda) :
    FnOk P w K mg base CX0 (k + 1) f (PySem.W.fnX "__init__" "TooMany.__init__" (defArgs mXTm) (defBody mXTm) (defScope mXTm) [("__class__", cc)] dV kV doc pm an (.ref cda) ct) ["self", "many"] (spX1 C "many") := by
  refine fn_super (N := ["self", "many", "__class__"]) (me := "self") lk hcd scXTm (fun vs H Q E h => ?_) T hc rfl rfl (fun _ => ⟨_, rfl⟩) (fun _ => rfl) (fun _ => rfl) (fun _ => rfl) (fun A outer s H E => ?_) (fun A outer s H vs Q E hr h => ?_)
  · obtain ⟨a, i, rfl, _⟩ := h
    rfl
  · exact ⟨rfl, rfl, rfl, rfl, ⟨_, _, _, lk, rfl, rfl, rfl⟩, Z.cd, Z.top, Z.mg, rfl, hc, rfl, Z.cl, Z.mr, Z.op, Z.su, Z.ve⟩
  · obtain ⟨a, i, rfl, ha, hi, q⟩ := h
    refine ⟨a, _, _, rfl, ha, pa_cons (pe_joined (.cons pe_str (.cons (pe_fmt (pv 1)) .nil))) pa_nil, pss_one (ps_ost (pv 0) (pv 1)), fun u hu => ?_⟩
    have ua : a ≠ u := ne_of_none ha hu
    refine ⟨_, rfl, by decide, .int i, rfl, .inr ⟨i, rfl, hi, _, rfl, text_fits (by decide) hi, ?_⟩⟩
    refine ⟨rfl, by simp, .int i, rfl, .ref a, rfl, a, C, rfl, T, hno, .inl ⟨(upd_ne ua).trans ha, fun d hd da => ?_⟩⟩
    have du : d ≠ u := fun z => by
      rw [z, upd_same] at hd
      cases hd
    rw [upd_ne du] at hd
    exact q d _ hd da upd_same ((upd_ne da).trans upd_same) fun b o ba hb => (upd_ne ba).trans ((upd_ne (ne_of_none hb hd)).trans ((upd_ne (ne_of_none hb hu)).trans hb))
end
end K13
/-! what the top leaves, looked at once: defs, classes, exceptions -/
namespace Tc
open PySem PySem.Spec PyProof.Rows L2 He
def rfsO (g : Addr → Option Obj) (a : Addr) : List Addr := match g a with
  | some o => (match o.data with
    | .seq its _ => its.toList.flatMap refV
    | .dict es _ => es.toList.flatMap fun e => refV e.val
    | .func fd => refV fd.code ++ (refV fd.defaults ++ (refV fd.kwdefaults ++ fd.closure.map (·.2)))
    | .cls cd => cd.ns :: cd.mro.flatMap refV
    | _ => [])
  | none => []
/-- by steps from what is known -/
def reach (g : Addr → Option Obj) : Nat → List Addr → List Addr → List Addr
  | 0, seen, fr => seen ++ fr
  | n + 1, seen, fr => reach g n (seen ++ fr) (((fr.flatMap (rfsO g)).eraseDups).filter fun a => !(seen.contains a || fr.contains a))
abbrev FnC : Type := Option (Str × Str × Arguments × FuncBody × Scope × Addr × List Str × Addr)
def xcW (K : PySem.W.Frag) (x : Str) : FnC := match K.lookup (ma K (ga K x) "__init__") with
  | some ⟨_, _, .func fd, _⟩ => some (fd.name, fd.qualname, fd.params, fd.body, fd.scope, fd.globals, fd.closure.map (·.1), fd.builtins)
  | _ => none
/-- an exception's own __init__ -/
structure XcD where
  cls : Str
  qual : Str
  params : Arguments
  body : List Stmt
  scope : Scope
def XcD.val (d : XcD) : FnC := some ("__init__", d.qual, d.params, .stmts d.body, d.scope, mainGlobals, ["__class__"], builtinsNs)
def clsObjB (K : PySem.W.Frag) (C : Addr) : Bool := match K.lookup C with
  | some ⟨.type t, _, .cls cd, sl⟩ => (match cd.mro, sl.toList with
    | .ref C' :: bm, [_, _, _, _, some (.builtin n), _] => decide (t = "type") && (decide (C' = C) && (decide (n = "ValueError.__new__") && (!cd.hasDel && (cd.hasDict && PySem.HandSPX.refsVE bm))))
    | _, _ => false)
  | _ => false
theorem clsObjB_ok {K : PySem.W.Frag} {C : Addr} (h : clsObjB K C = true) : ∃ nm q N bs bm sn sub ab col dd k0 k1 k2 k3 k5, K.lookup C = some (excClassObj nm q C N bs bm true sn sub ab col dd k0 k1 k2 k3 k5 "ValueError.__new__") ∧ PySem.HandSPX.refsVE bm = true := by
  unfold clsObjB at h
  split at h
  · rename_i t dd cd sl hl
    split at h
    · rename_i C' bm k0 k1 k2 k3 n k5 hm hs
      obtain ⟨h1, h⟩ := ba h
      obtain ⟨h2, h⟩ := ba h
      obtain ⟨h3, h⟩ := ba h
      obtain ⟨h4, h⟩ := ba h
      obtain ⟨h5, h6⟩ := ba h
      have e1 := of_decide_eq_true h1
      have e2 := of_decide_eq_true h2
      have e3 := of_decide_eq_true h3
      have es : sl = #[k0, k1, k2, k3, some (.builtin n), k5] := by
        rw [← Array.toList_inj]
        exact hs
      obtain ⟨nm, bs, mro, ns, q, hasD, sn, sub, ab, col, hasDel⟩ := cd
      dsimp only at hm h4 h5
      have e4 : hasDel = false := by
        cases hasDel with
        | false => rfl
        | true => cases h4
      subst e1 e2 e3 es hm h5 e4
      exact ⟨nm, q, ns, bs, bm, sn, sub, ab, col, dd, k0, k1, k2, k3, k5, hl, h6⟩
    · cases h
  · cases h
def xcB (K : PySem.W.Frag) (file x fld : Str) (fl : List Bool) : Bool :=
  eqO (PySem.W.nsIn K mainGlobals x) (some (some (.ref (ga K x)))) && (clsObjB K (ga K x) && (oexB K (ga K x) && (excB K (ga K x) fl && (eqO (PySem.W.findIn K (.ref (ga K x)) "__init__") (some (some (.ref (ma K (ga K x) "__init__")))) &&
  (decide (PySem.W.typeIn K (.ref (ma K (ga K x) "__init__")) = some (.type "function")) && (eqO (PySem.W.findIn K (.ref (ga K x)) fld) (some none) && (match K.lookup (ma K (ga K x) "__init__") with
    | some ⟨_, _, .func fd, _⟩ => (match fd.defaults, fd.code, fd.closure with
      | .none, .ref A, [(_, W)] => PySem.W.codeIn K (.ref A) fd.qualname && (supB K file (ga K x) A && (match K.lookup W with
        | some ⟨_, _, .cell (some (.ref C')), _⟩ => decide (C' = ga K x)
        | _ => false))
      | _, _, _ => false)
    | _ => false)))))))
/-- all that an exception of the text is known for -/
structure XcOk (P : Program) (K : PySem.W.Frag) (mg : Str → Option Value) (d : XcD) (fld : Str) (fl : List Bool) (C I W A : Addr) : Prop where
  T : OexC K C
  E : ExC K mg d.cls C fl
  Z : SupF P K mg C A
  iC : PySem.W.findIn K (.ref C) "__init__" = some (some (.ref I))
  tI : PySem.W.typeIn K (.ref I) = some (.type "function")
  F : ∃ oc od sl kv dc pm an ct, K.lookup I = some ⟨oc, od, .func (PySem.W.fnX "__init__" d.qual d.params d.body d.scope [("__class__", W)] .none kv dc pm an (.ref A) ct), sl⟩
  cd : PySem.W.codeIn K (.ref A) d.qual = true
  cW : ∃ ol : Obj, K.lookup W = some ol ∧ ol.data = .cell (some (.ref C))
  no : PySem.W.findIn K (.ref C) fld = some none
  mgC : mg d.cls = some (.ref C)
theorem xc_ok {P : Program} {K : PySem.W.Frag} {h : Heap} {mg : Str → Option Value} {d : XcD} {fld : Str} {fl : List Bool} (X : K.In h) (G : h.Ns mainGlobals mg) (top : (P.main.scope.names.lookup ("super" : Str)).isSome = false) (e : xcW K d.cls = d.val) (c : xcB K P.main.file d.cls fld fl = true) : ∃ I W A, XcOk P K mg d fld fl (ga K d.cls) I W A := by
  unfold xcB at c
  obtain ⟨c1, c⟩ := ba c
  obtain ⟨c2, c⟩ := ba c
  obtain ⟨c3, c⟩ := ba c
  obtain ⟨c4, c⟩ := ba c
  obtain ⟨c5, c⟩ := ba c
  obtain ⟨c6, c⟩ := ba c
  obtain ⟨c7, c8⟩ := ba c
  have a1 := eqO_ok c1
  obtain ⟨nm, q, N, bs, bm, sn, sub, ab, col, dd, k0, k1, k2, k3, k5, xL, xR⟩ := clsObjB_ok c2
  unfold xcW at e
  cases hl : K.lookup (ma K (ga K d.cls) "__init__") with
  | none =>
    rw [hl] at c8
    cases c8
  | some o =>
    obtain ⟨oc, od, dt, osl⟩ := o
    rw [hl] at c8 e
    cases dt with
    | func fd =>
      obtain ⟨n1, n2, n3, n4, n5, n6, n7, n8, n9, n10, n11, n12, n13, n14, n15⟩ := fd
      have e2 : (some (n1, n2, n3, n4, n5, n6, n7.map (·.1), n15) : FnC) = some (("__init__" : Str), d.qual, d.params, FuncBody.stmts d.body, d.scope, mainGlobals, [("__class__" : Str)], builtinsNs) := e
      simp only [Option.some.injEq, Prod.mk.injEq] at e2
      obtain ⟨h1, h2, h3, h4, h5, h6, h7, h8⟩ := e2
      subst h1 h2 h3 h4 h5 h6 h8
      dsimp only at c8
      split at c8
      · rename_i A s W
        have h7' : s = "__class__" := (List.cons.inj h7).1
        subst h7'
        obtain ⟨d1, c9⟩ := ba c8
        obtain ⟨d2, d3⟩ := ba c9
        refine ⟨_, W, A, oexB_ok xL xR c3, excB_ok X G a1 c4, supB_ok X G top d2, eqO_ok c5, of_decide_eq_true c6, ⟨oc, od, osl, _, _, _, _, _, hl⟩, d1, ?_, eqO_ok c7, PySem.W.mg_of X G a1⟩
        split at d3
        · rename_i w0 w1 C' w2 hw
          rw [of_decide_eq_true d3] at hw
          exact ⟨_, hw, rfl⟩
        · cases d3
      · cases c8
    | _ => cases c8
/-! ### the look -/
abbrev AlM : Type := Bool × List FnW × List FnC
def obsM (fs : List (PySem.W.Frag → Bool)) (fn : List DefD) (xs : List XcD) (K : PySem.W.Frag) : AlM := ((fs.all fun f => f K) && fn.all fun d => d.ok K, fn.map (fun d => fnW K d.at_), xs.map fun x => xcW K x.cls)
def valM (fn : List DefD) (xs : List XcD) : AlM := (true, fn.map DefD.val, xs.map XcD.val)
def SaysM (fs : List (PySem.W.Frag → Bool)) (fn : List DefD) (xs : List XcD) (K : PySem.W.Frag) : Prop := obsM fs fn xs K = valM fn xs
def obsMG (n : Nat) (fs : List (PySem.W.Frag → Bool)) (fn : List DefD) (xs : List XcD) (g : Addr → Option Obj) : AlM := obsM fs fn xs (frG g (reach g n [cStatics] [mainGlobals]))
def hookM (n : Nat) (fs : List (PySem.W.Frag → Bool)) (fn : List DefD) (xs : List XcD) : PySem.W.Hook where
  α := AlM
  obs := fun s => obsMG n fs fn xs s.heap.get?
  val := fun _ => valM fn xs
  says := fun _ h => ∃ K : PySem.W.Frag, K.In h ∧ SaysM fs fn xs K
  of := fun _ _ e => ⟨_, frG_in, e⟩
  keeps := fun _ _ _ ⟨K, hK, c⟩ k => ⟨K, PySem.W.Frag.In.keeps hK k, c⟩
theorem obsMG_eq {n : Nat} {fs : List (PySem.W.Frag → Bool)} {fn : List DefD} {xs : List XcD} {g : Addr → Option Obj} {s : Shared} (h : ∀ a, g a = s.heap.get? a) : obsMG n fs fn xs g = (hookM n fs fn xs).obs s := by
  have e : g = s.heap.get? := funext h
  rw [e] <;> rfl
section
variable {fs : List (PySem.W.Frag → Bool)} {fn : List DefD} {xs : List XcD} {K : PySem.W.Frag}
theorem SaysM.fact (c : SaysM fs fn xs K) (i : Nat) {f : PySem.W.Frag → Bool} (h : fs[i]? = some f := by rfl) : f K = true := by
  have c1 := (ba (show ((fs.all fun f => f K) && fn.all fun d => d.ok K) = true from congrArg (fun z : AlM => z.1) c)).1
  exact List.all_eq_true.mp c1 f (List.mem_of_getElem? h)
theorem SaysM.def_ (c : SaysM fs fn xs K) (i : Nat) {d : DefD} (h : fn[i]? = some d := by rfl) : ∃ fd, FunD K d.name d.qual d.params d.body d.scope (d.dvs K) (d.kws K) (fAd K d.at_) fd := by
  have c2 := (ba (show ((fs.all fun f => f K) && fn.all fun d => d.ok K) = true from congrArg (fun z : AlM => z.1) c)).2
  have e : fn.map (fun d => fnW K d.at_) = fn.map DefD.val := congrArg (fun z : AlM => z.2.1) c
  have e2 : (fn.map fun d => fnW K d.at_)[i]? = (fn.map DefD.val)[i]? := by rw [e]
  rw [List.getElem?_map, List.getElem?_map, h] at e2
  exact DefD.funD (Option.some.inj e2) (List.all_eq_true.mp c2 d (List.mem_of_getElem? h))
theorem SaysM.exc (c : SaysM fs fn xs K) (i : Nat) {d : XcD} (h : xs[i]? = some d := by rfl) : xcW K d.cls = d.val := by
  have e : xs.map (fun x => xcW K x.cls) = xs.map XcD.val := congrArg (fun z : AlM => z.2.2) c
  have e2 : (xs.map fun x => xcW K x.cls)[i]? = (xs.map XcD.val)[i]? := by rw [e]
  rw [List.getElem?_map, List.getElem?_map, h] at e2
  exact Option.some.inj e2
end
/-- a def without defaults by places -/
theorem fun_of {K : PySem.W.Frag} {x qual : Str} {st : Stmt} {kws : List (Str × V)} {f : Addr} {fd : FuncData} (F : FunD K x qual (defArgs st) (defBody st) (defScope st) [] kws f fd) : Fun K x qual st f fd := by
  obtain ⟨oc, od, dV, kV, doc, pm, an, cdv, ct, osl, e, lk, hcd, hD, _⟩ := F.ex
  rcases hD with ⟨_, rfl⟩ | ⟨n, _⟩
  · exact ⟨⟨oc, od, kV, doc, pm, an, cdv, ct, osl, e, lk, hcd⟩, F.kp⟩
  · exact absurd rfl n
def tup0B (K : PySem.W.Frag) (a : Addr) : Bool := match K.lookup a with
  | some ⟨.type c, _, .seq its _, _⟩ => decide (c = "tuple") && its.toList.isEmpty
  | _ => false
theorem tup0_ok {K : PySem.W.Frag} {a : Addr} (h : tup0B K a = true) (H : Hp) : Dp K H (.ref a) (.tuple []) := by
  unfold tup0B at h
  split at h
  · rename_i c dd its n sl hl
    obtain ⟨h1, h2⟩ := ba h
    have e := of_decide_eq_true h1
    have ei : its.toList = [] := List.isEmpty_iff.mp h2
    refine .tup (.inr ⟨_, its, n, hl, by rw [e], rfl, by rw [← Array.length_toList, ei]; exact Nat.zero_le _, by rw [ei]; exact .nil⟩) .nil
  · cases h
end Tc
namespace K13
open PySem L2 PyProof.Rows Tc Evl
theorem kb_en {K : PySem.W.Frag} {f : Addr} {fd : FuncData} (F : Fun K "entries" "House.entries" mEntries f fd) : KBn K fd ["self", "place", "many"] (1 + 1) ["many"] (· ++ ·) (· ++ ·) := by
  obtain ⟨o1, o2, kw, dc, m1, a1, c1, c2, sl, rfl, _, _⟩ := F.ex
  refine ⟨fun s us ws _ h1 h2 => ?_, fun r1 r2 => r1.append r2⟩
  match us, ws, h1, h2 with
  | [a, b], [c], _, _ => exact .of_eq rfl
/-- NoTable among the classes -/
def flNt : List Bool := (List.range 26).map fun i => decide (i = 1 ∨ i = 13 ∨ i = 25)
def fileN : Str := PySem.Challenge.pw_tidecopy_k13_groups_done.main.file
def eqE (K : PySem.W.Frag) (x : Str) : Bool := He.eqO (PySem.W.nsIn K mainGlobals x) (some (some (.ref (He.ga K x))))
def hfs : List (PySem.W.Frag → Bool) := [fun K => (He.Fa.glo "is_number").ok K,
  fun K => (He.Fa.glo "is_key").ok K,
  fun K => (He.Fa.glo "is_worth").ok K,
  fun K => (He.Fa.glo "is_row").ok K,
  fun K => (He.Fa.glo "is_rows").ok K,
  fun K => (He.Fa.glo "is_table").ok K,
  fun K => (He.Fa.glo "is_change").ok K,
  fun K => (He.Fa.glo "is_group").ok K,
  fun K => (He.Fa.glo "changes_of").ok K,
  fun K => (He.Fa.glo "carry").ok K,
  fun K => (He.Fa.glo "rising").ok K,
  fun K => (He.Fa.glo "_law_bag").ok K,
  fun K => (He.Fa.glo "_law_take").ok K,
  fun K => (He.Fa.glo "_law_of").ok K,
  fun K => (He.Fa.glo "_law_within").ok K,
  fun K => (He.Fa.glo "_law_kinds").ok K,
  fun K => (He.Fa.glo "_law_odd").ok K,
  fun K => (He.Fa.glo "_law_spoilt").ok K,
  fun K => (He.Fa.glo "_law_keys").ok K,
  fun K => (He.Fa.glo "_law_table").ok K,
  fun K => (He.Fa.glo "_law_changes").ok K,
  fun K => (He.Fa.glo "_law_is_change").ok K,
  fun K => (He.Fa.glo "_law_are_changes").ok K,
  fun K => (He.Fa.glo "_law_done").ok K,
  fun K => (He.Fa.glo "_law_pairs").ok K,
  fun K => (He.Fa.glo "_law_house_call").ok K,
  fun K => (He.Fa.glo "_law_field").ok K,
  fun K => (He.Fa.glo "_law_house_tried").ok K,
  fun K => (He.Fa.glo "law").ok K,
  fun K => (He.Fa.glo "House").ok K,
  fun K => (He.Fa.cls "House").ok K,
  fun K => tup0B K (He.dflAt ("House", some "__init__") 0 K),
  fun K => (He.Fa.mkr "House").ok K,
  fun K => (He.Fa.meth "House" "change").ok K,
  fun K => (He.Fa.meth "House" "table").ok K,
  fun K => (He.Fa.meth "House" "places").ok K,
  fun K => (He.Fa.meth "House" "entries").ok K,
  fun K => (He.Fa.noat "House" "worths").ok K,
  fun K => (He.Fa.noat "House" "kept").ok K,
  fun K => (He.Fa.noat "House" "first_kept").ok K,
  fun K => (He.Fa.noat "House" "lives_given").ok K,
  fun K => (He.Fa.noat "House" "begun").ok K,
  fun K => (He.Fa.noat "House" "living").ok K,
  fun K => (He.Fa.noat "House" "running").ok K,
  fun K => (He.Fa.glo "NoTable").ok K,
  fun K => (He.Fa.exc "NoTable").ok K,
  fun K => eqE K "NoTable" && excB K (He.ga K "NoTable") flNt,
  fun K => (He.Fa.glo "NoChange").ok K,
  fun K => (He.Fa.exc "NoChange").ok K,
  fun K => eqE K "NoChange" && excB K (He.ga K "NoChange") flNc,
  fun K => xcB K fileN "TooMany" "many" flTm,
  fun K => (He.Fa.glo "TideError").ok K,
  fun K => (He.Fa.exm "NoChange" "TideError" true).ok K,
  fun K => (He.Fa.exm "TooMany" "TideError" true).ok K,
  fun K => (He.Fa.free "isinstance").ok K,
  fun K => (He.Fa.free "int").ok K,
  fun K => (He.Fa.free "bool").ok K,
  fun K => (He.Fa.free "tuple").ok K,
  fun K => (He.Fa.free "list").ok K,
  fun K => (He.Fa.free "str").ok K,
  fun K => (He.Fa.free "len").ok K,
  fun K => (He.Fa.free "set").ok K,
  fun K => (He.Fa.free "sorted").ok K,
  fun K => (He.Fa.free "range").ok K,
  fun K => (He.Fa.free "abs").ok K,
  fun K => (He.Fa.free "min").ok K,
  fun K => (He.Fa.free "max").ok K,
  fun K => (He.Fa.free "dict").ok K,
  fun K => (He.Fa.free "all").ok K,
  fun K => (He.Fa.free "ValueError").ok K,
  fun K => (He.Fa.int "KEYS" 1000).ok K,
  fun K => (He.Fa.int "WORTHS" 1000).ok K,
  fun K => (He.Fa.int "MOST_ROWS" 100).ok K,
  fun K => (He.Fa.int "MOST_CHANGES" 6).ok K]
def hfn : List He.DefD := [⟨("is_number", none), "is_number", "is_number", defArgs sNum, defBody sNum, defScope sNum, [], []⟩,
  ⟨("is_key", none), "is_key", "is_key", defArgs sKey, defBody sKey, defScope sKey, [], []⟩,
  ⟨("is_worth", none), "is_worth", "is_worth", defArgs sWorth, defBody sWorth, defScope sWorth, [], []⟩,
  ⟨("is_row", none), "is_row", "is_row", defArgs sRow, defBody sRow, defScope sRow, [], []⟩,
  ⟨("is_rows", none), "is_rows", "is_rows", defArgs sRows, defBody sRows, defScope sRows, [], []⟩,
  ⟨("is_table", none), "is_table", "is_table", defArgs sTable, defBody sTable, defScope sTable, [], []⟩,
  ⟨("is_change", none), "is_change", "is_change", defArgs sCh, defBody sCh, defScope sCh, [], []⟩,
  ⟨("is_group", none), "is_group", "is_group", defArgs sGr, defBody sGr, defScope sGr, [], []⟩,
  ⟨("changes_of", none), "changes_of", "changes_of", defArgs sCo, defBody sCo, defScope sCo, [], []⟩,
  ⟨("carry", none), "carry", "carry", defArgs sCa, defBody sCa, defScope sCa, [], []⟩,
  ⟨("rising", none), "rising", "rising", defArgs sRi, defBody sRi, defScope sRi, [], []⟩,
  ⟨("_law_bag", none), "_law_bag", "_law_bag", defArgs sBag, defBody sBag, defScope sBag, [], []⟩,
  ⟨("_law_take", none), "_law_take", "_law_take", defArgs sTake, defBody sTake, defScope sTake, [], []⟩,
  ⟨("_law_of", none), "_law_of", "_law_of", defArgs sOf, defBody sOf, defScope sOf, [], []⟩,
  ⟨("_law_within", none), "_law_within", "_law_within", defArgs sWithin, defBody sWithin, defScope sWithin, [], []⟩,
  ⟨("_law_kinds", none), "_law_kinds", "_law_kinds", defArgs sKinds, defBody sKinds, defScope sKinds, [], []⟩,
  ⟨("_law_odd", none), "_law_odd", "_law_odd", defArgs sOdd, defBody sOdd, defScope sOdd, [], []⟩,
  ⟨("_law_spoilt", none), "_law_spoilt", "_law_spoilt", defArgs sSp, defBody sSp, defScope sSp, [], []⟩,
  ⟨("_law_keys", none), "_law_keys", "_law_keys", defArgs sKeys, defBody sKeys, defScope sKeys, [], []⟩,
  ⟨("_law_table", none), "_law_table", "_law_table", defArgs sTab, defBody sTab, defScope sTab, [], []⟩,
  ⟨("_law_changes", none), "_law_changes", "_law_changes", defArgs sLCh, defBody sLCh, defScope sLCh, [], []⟩,
  ⟨("_law_is_change", none), "_law_is_change", "_law_is_change", defArgs sIsCh, defBody sIsCh, defScope sIsCh, [], []⟩,
  ⟨("_law_are_changes", none), "_law_are_changes", "_law_are_changes", defArgs sAreCh, defBody sAreCh, defScope sAreCh, [], []⟩,
  ⟨("_law_done", none), "_law_done", "_law_done", defArgs sDone, defBody sDone, defScope sDone, [], []⟩,
  ⟨("_law_pairs", none), "_law_pairs", "_law_pairs", defArgs sPairs, defBody sPairs, defScope sPairs, [], []⟩,
  ⟨("_law_house_call", none), "_law_house_call", "_law_house_call", defArgs sCall, defBody sCall, defScope sCall, [], []⟩,
  ⟨("_law_field", none), "_law_field", "_law_field", defArgs sField, defBody sField, defScope sField, [], []⟩,
  ⟨("_law_house_tried", none), "_law_house_tried", "_law_house_tried", defArgs sTried, defBody sTried, defScope sTried, [], []⟩,
  ⟨("law", none), "law", "law", defArgs sLaw, defBody sLaw, defScope sLaw, [], []⟩,
  ⟨("House", some "__init__"), "__init__", "House.__init__", defArgs mInit, defBody mInit, defScope mInit, [.adr (He.dflAt ("House", some "__init__") 0)], []⟩,
  ⟨("House", some "change"), "change", "House.change", defArgs mChange, defBody mChange, defScope mChange, [], []⟩,
  ⟨("House", some "table"), "table", "House.table", defArgs mTable, defBody mTable, defScope mTable, [], []⟩,
  ⟨("House", some "places"), "places", "House.places", defArgs mPlaces, defBody mPlaces, defScope mPlaces, [], []⟩,
  ⟨("House", some "entries"), "entries", "House.entries", defArgs mEntries, defBody mEntries, defScope mEntries, [], []⟩]
def hxs : List XcD := [⟨"TooMany", "TooMany.__init__", defArgs mXTm, defBody mXTm, defScope mXTm⟩]
set_option maxHeartbeats 4000000 in
theorem all_mk {P : Program} {w : World} {K : PySem.W.Frag} {h : Heap} {mg : Str → Option Value} {fa : Addr} (X : K.In h) (G : h.Ns mainGlobals mg) (hfa : mg "law" = some (.ref fa)) (xFile : P.main.file = fileN) (xP : (P.main.scope.names.lookup ("super" : Str)).isSome = false) (c : SaysM hfs hfn hxs K) :
    ∃ fd : FuncData, (∀ (s : Shared) (v : Value), BindsTo s fd ⟨[v], []⟩ [("script", v)]) ∧ ∀ base : Heap, K.In base → base.Ns mainGlobals mg → FnOk P w K mg base CX0 26 fa fd ["script"] (spLaw K) := by
  obtain ⟨fd1, FD1⟩ : ∃ fd, FunD K "is_number" "is_number" (defArgs sNum) (defBody sNum) (defScope sNum) [] [] (He.ga K "is_number") fd := c.def_ 0
  have F1 := fun_of FD1
  have m1 := He.glo_ok X G (c.fact 0 (f := fun K => (He.Fa.glo "is_number").ok K) rfl)
  have b1 := F1.binds (ps := ["thing"]) fun _ _ _ _ _ _ us hl => match us, hl with | [_], _ => rfl
  obtain ⟨fd2, FD2⟩ : ∃ fd, FunD K "is_key" "is_key" (defArgs sKey) (defBody sKey) (defScope sKey) [] [] (He.ga K "is_key") fd := c.def_ 1
  have F2 := fun_of FD2
  have m2 := He.glo_ok X G (c.fact 1 (f := fun K => (He.Fa.glo "is_key").ok K) rfl)
  have b2 := F2.binds (ps := ["thing"]) fun _ _ _ _ _ _ us hl => match us, hl with | [_], _ => rfl
  obtain ⟨fd3, FD3⟩ : ∃ fd, FunD K "is_worth" "is_worth" (defArgs sWorth) (defBody sWorth) (defScope sWorth) [] [] (He.ga K "is_worth") fd := c.def_ 2
  have F3 := fun_of FD3
  have m3 := He.glo_ok X G (c.fact 2 (f := fun K => (He.Fa.glo "is_worth").ok K) rfl)
  have b3 := F3.binds (ps := ["thing"]) fun _ _ _ _ _ _ us hl => match us, hl with | [_], _ => rfl
  obtain ⟨fd4, FD4⟩ : ∃ fd, FunD K "is_row" "is_row" (defArgs sRow) (defBody sRow) (defScope sRow) [] [] (He.ga K "is_row") fd := c.def_ 3
  have F4 := fun_of FD4
  have m4 := He.glo_ok X G (c.fact 3 (f := fun K => (He.Fa.glo "is_row").ok K) rfl)
  have b4 := F4.binds (ps := ["thing"]) fun _ _ _ _ _ _ us hl => match us, hl with | [_], _ => rfl
  obtain ⟨fd5, FD5⟩ : ∃ fd, FunD K "is_rows" "is_rows" (defArgs sRows) (defBody sRows) (defScope sRows) [] [] (He.ga K "is_rows") fd := c.def_ 4
  have F5 := fun_of FD5
  have m5 := He.glo_ok X G (c.fact 4 (f := fun K => (He.Fa.glo "is_rows").ok K) rfl)
  have b5 := F5.binds (ps := ["thing", "first", "last"]) fun _ _ _ _ _ _ us hl => match us, hl with | [_, _, _], _ => rfl
  obtain ⟨fd6, FD6⟩ : ∃ fd, FunD K "is_table" "is_table" (defArgs sTable) (defBody sTable) (defScope sTable) [] [] (He.ga K "is_table") fd := c.def_ 5
  have F6 := fun_of FD6
  have m6 := He.glo_ok X G (c.fact 5 (f := fun K => (He.Fa.glo "is_table").ok K) rfl)
  have b6 := F6.binds (ps := ["thing"]) fun _ _ _ _ _ _ us hl => match us, hl with | [_], _ => rfl
  obtain ⟨fd7, FD7⟩ : ∃ fd, FunD K "is_change" "is_change" (defArgs sCh) (defBody sCh) (defScope sCh) [] [] (He.ga K "is_change") fd := c.def_ 6
  have F7 := fun_of FD7
  have m7 := He.glo_ok X G (c.fact 6 (f := fun K => (He.Fa.glo "is_change").ok K) rfl)
  have b7 := F7.binds (ps := ["thing"]) fun _ _ _ _ _ _ us hl => match us, hl with | [_], _ => rfl
  obtain ⟨fd8, FD8⟩ : ∃ fd, FunD K "is_group" "is_group" (defArgs sGr) (defBody sGr) (defScope sGr) [] [] (He.ga K "is_group") fd := c.def_ 7
  have F8 := fun_of FD8
  have m8 := He.glo_ok X G (c.fact 7 (f := fun K => (He.Fa.glo "is_group").ok K) rfl)
  have b8 := F8.binds (ps := ["thing"]) fun _ _ _ _ _ _ us hl => match us, hl with | [_], _ => rfl
  obtain ⟨fd9, FD9⟩ : ∃ fd, FunD K "changes_of" "changes_of" (defArgs sCo) (defBody sCo) (defScope sCo) [] [] (He.ga K "changes_of") fd := c.def_ 8
  have F9 := fun_of FD9
  have m9 := He.glo_ok X G (c.fact 8 (f := fun K => (He.Fa.glo "changes_of").ok K) rfl)
  have b9 := F9.binds (ps := ["entry"]) fun _ _ _ _ _ _ us hl => match us, hl with | [_], _ => rfl
  obtain ⟨fd10, FD10⟩ : ∃ fd, FunD K "carry" "carry" (defArgs sCa) (defBody sCa) (defScope sCa) [] [] (He.ga K "carry") fd := c.def_ 9
  have F10 := fun_of FD10
  have m10 := He.glo_ok X G (c.fact 9 (f := fun K => (He.Fa.glo "carry").ok K) rfl)
  have b10 := F10.binds (ps := ["rows", "log", "low", "high"]) fun _ _ _ _ _ _ us hl => match us, hl with | [_, _, _, _], _ => rfl
  obtain ⟨fd11, FD11⟩ : ∃ fd, FunD K "rising" "rising" (defArgs sRi) (defBody sRi) (defScope sRi) [] [] (He.ga K "rising") fd := c.def_ 10
  have F11 := fun_of FD11
  have m11 := He.glo_ok X G (c.fact 10 (f := fun K => (He.Fa.glo "rising").ok K) rfl)
  have b11 := F11.binds (ps := ["rows"]) fun _ _ _ _ _ _ us hl => match us, hl with | [_], _ => rfl
  obtain ⟨fd12, FD12⟩ : ∃ fd, FunD K "_law_bag" "_law_bag" (defArgs sBag) (defBody sBag) (defScope sBag) [] [] (He.ga K "_law_bag") fd := c.def_ 11
  have F12 := fun_of FD12
  have m12 := He.glo_ok X G (c.fact 11 (f := fun K => (He.Fa.glo "_law_bag").ok K) rfl)
  have b12 := F12.binds (ps := ["script", "k"]) fun _ _ _ _ _ _ us hl => match us, hl with | [_, _], _ => rfl
  obtain ⟨fd13, FD13⟩ : ∃ fd, FunD K "_law_take" "_law_take" (defArgs sTake) (defBody sTake) (defScope sTake) [] [] (He.ga K "_law_take") fd := c.def_ 12
  have F13 := fun_of FD13
  have m13 := He.glo_ok X G (c.fact 12 (f := fun K => (He.Fa.glo "_law_take").ok K) rfl)
  have b13 := F13.binds (ps := ["bag", "man1"]) fun _ _ _ _ _ _ us hl => match us, hl with | [_, _], _ => rfl
  obtain ⟨fd14, FD14⟩ : ∃ fd, FunD K "_law_of" "_law_of" (defArgs sOf) (defBody sOf) (defScope sOf) [] [] (He.ga K "_law_of") fd := c.def_ 13
  have F14 := fun_of FD14
  have m14 := He.glo_ok X G (c.fact 13 (f := fun K => (He.Fa.glo "_law_of").ok K) rfl)
  have b14 := F14.binds (ps := ["bag", "some"]) fun _ _ _ _ _ _ us hl => match us, hl with | [_, _], _ => rfl
  obtain ⟨fd15, FD15⟩ : ∃ fd, FunD K "_law_within" "_law_within" (defArgs sWithin) (defBody sWithin) (defScope sWithin) [] [] (He.ga K "_law_within") fd := c.def_ 14
  have F15 := fun_of FD15
  have m15 := He.glo_ok X G (c.fact 14 (f := fun K => (He.Fa.glo "_law_within").ok K) rfl)
  have b15 := F15.binds (ps := ["thing", "least", "most"]) fun _ _ _ _ _ _ us hl => match us, hl with | [_, _, _], _ => rfl
  obtain ⟨fd16, FD16⟩ : ∃ fd, FunD K "_law_kinds" "_law_kinds" (defArgs sKinds) (defBody sKinds) (defScope sKinds) [] [] (He.ga K "_law_kinds") fd := c.def_ 15
  have F16 := fun_of FD16
  have m16 := He.glo_ok X G (c.fact 15 (f := fun K => (He.Fa.glo "_law_kinds").ok K) rfl)
  have b16 := F16.binds (ps := ["e"]) fun _ _ _ _ _ _ us hl => match us, hl with | [_], _ => rfl
  obtain ⟨fd17, FD17⟩ : ∃ fd, FunD K "_law_odd" "_law_odd" (defArgs sOdd) (defBody sOdd) (defScope sOdd) [] [] (He.ga K "_law_odd") fd := c.def_ 16
  have F17 := fun_of FD17
  have m17 := He.glo_ok X G (c.fact 16 (f := fun K => (He.Fa.glo "_law_odd").ok K) rfl)
  have b17 := F17.binds (ps := ["bag"]) fun _ _ _ _ _ _ us hl => match us, hl with | [_], _ => rfl
  obtain ⟨fd18, FD18⟩ : ∃ fd, FunD K "_law_spoilt" "_law_spoilt" (defArgs sSp) (defBody sSp) (defScope sSp) [] [] (He.ga K "_law_spoilt") fd := c.def_ 17
  have F18 := fun_of FD18
  have m18 := He.glo_ok X G (c.fact 17 (f := fun K => (He.Fa.glo "_law_spoilt").ok K) rfl)
  have b18 := F18.binds (ps := ["bag", "thing"]) fun _ _ _ _ _ _ us hl => match us, hl with | [_, _], _ => rfl
  obtain ⟨fd19, FD19⟩ : ∃ fd, FunD K "_law_keys" "_law_keys" (defArgs sKeys) (defBody sKeys) (defScope sKeys) [] [] (He.ga K "_law_keys") fd := c.def_ 18
  have F19 := fun_of FD19
  have m19 := He.glo_ok X G (c.fact 18 (f := fun K => (He.Fa.glo "_law_keys").ok K) rfl)
  have b19 := F19.binds (ps := ["bag"]) fun _ _ _ _ _ _ us hl => match us, hl with | [_], _ => rfl
  obtain ⟨fd20, FD20⟩ : ∃ fd, FunD K "_law_table" "_law_table" (defArgs sTab) (defBody sTab) (defScope sTab) [] [] (He.ga K "_law_table") fd := c.def_ 19
  have F20 := fun_of FD20
  have m20 := He.glo_ok X G (c.fact 19 (f := fun K => (He.Fa.glo "_law_table").ok K) rfl)
  have b20 := F20.binds (ps := ["bag", "keys"]) fun _ _ _ _ _ _ us hl => match us, hl with | [_, _], _ => rfl
  obtain ⟨fd21, FD21⟩ : ∃ fd, FunD K "_law_changes" "_law_changes" (defArgs sLCh) (defBody sLCh) (defScope sLCh) [] [] (He.ga K "_law_changes") fd := c.def_ 20
  have F21 := fun_of FD21
  have m21 := He.glo_ok X G (c.fact 20 (f := fun K => (He.Fa.glo "_law_changes").ok K) rfl)
  have b21 := F21.binds (ps := ["bag", "keys", "most"]) fun _ _ _ _ _ _ us hl => match us, hl with | [_, _, _], _ => rfl
  obtain ⟨fd22, FD22⟩ : ∃ fd, FunD K "_law_is_change" "_law_is_change" (defArgs sIsCh) (defBody sIsCh) (defScope sIsCh) [] [] (He.ga K "_law_is_change") fd := c.def_ 21
  have F22 := fun_of FD22
  have m22 := He.glo_ok X G (c.fact 21 (f := fun K => (He.Fa.glo "_law_is_change").ok K) rfl)
  have b22 := F22.binds (ps := ["thing"]) fun _ _ _ _ _ _ us hl => match us, hl with | [_], _ => rfl
  obtain ⟨fd23, FD23⟩ : ∃ fd, FunD K "_law_are_changes" "_law_are_changes" (defArgs sAreCh) (defBody sAreCh) (defScope sAreCh) [] [] (He.ga K "_law_are_changes") fd := c.def_ 22
  have F23 := fun_of FD23
  have m23 := He.glo_ok X G (c.fact 22 (f := fun K => (He.Fa.glo "_law_are_changes").ok K) rfl)
  have b23 := F23.binds (ps := ["thing"]) fun _ _ _ _ _ _ us hl => match us, hl with | [_], _ => rfl
  obtain ⟨fd24, FD24⟩ : ∃ fd, FunD K "_law_done" "_law_done" (defArgs sDone) (defBody sDone) (defScope sDone) [] [] (He.ga K "_law_done") fd := c.def_ 23
  have F24 := fun_of FD24
  have m24 := He.glo_ok X G (c.fact 23 (f := fun K => (He.Fa.glo "_law_done").ok K) rfl)
  have b24 := F24.binds (ps := ["rows", "changes"]) fun _ _ _ _ _ _ us hl => match us, hl with | [_, _], _ => rfl
  obtain ⟨fd25, FD25⟩ : ∃ fd, FunD K "_law_pairs" "_law_pairs" (defArgs sPairs) (defBody sPairs) (defScope sPairs) [] [] (He.ga K "_law_pairs") fd := c.def_ 24
  have F25 := fun_of FD25
  have m25 := He.glo_ok X G (c.fact 24 (f := fun K => (He.Fa.glo "_law_pairs").ok K) rfl)
  have b25 := F25.binds (ps := ["rows"]) fun _ _ _ _ _ _ us hl => match us, hl with | [_], _ => rfl
  obtain ⟨fd26, FD26⟩ : ∃ fd, FunD K "_law_house_call" "_law_house_call" (defArgs sCall) (defBody sCall) (defScope sCall) [] [] (He.ga K "_law_house_call") fd := c.def_ 25
  have F26 := fun_of FD26
  have m26 := He.glo_ok X G (c.fact 25 (f := fun K => (He.Fa.glo "_law_house_call").ok K) rfl)
  have b26 := F26.binds (ps := ["house", "step"]) fun _ _ _ _ _ _ us hl => match us, hl with | [_, _], _ => rfl
  obtain ⟨fd27, FD27⟩ : ∃ fd, FunD K "_law_field" "_law_field" (defArgs sField) (defBody sField) (defScope sField) [] [] (He.ga K "_law_field") fd := c.def_ 26
  have F27 := fun_of FD27
  have m27 := He.glo_ok X G (c.fact 26 (f := fun K => (He.Fa.glo "_law_field").ok K) rfl)
  have b27 := F27.binds (ps := ["e"]) fun _ _ _ _ _ _ us hl => match us, hl with | [_], _ => rfl
  obtain ⟨fd28, FD28⟩ : ∃ fd, FunD K "_law_house_tried" "_law_house_tried" (defArgs sTried) (defBody sTried) (defScope sTried) [] [] (He.ga K "_law_house_tried") fd := c.def_ 27
  have F28 := fun_of FD28
  have m28 := He.glo_ok X G (c.fact 27 (f := fun K => (He.Fa.glo "_law_house_tried").ok K) rfl)
  have b28 := F28.binds (ps := ["house", "step"]) fun _ _ _ _ _ _ us hl => match us, hl with | [_, _], _ => rfl
  obtain ⟨fd29, FD29⟩ : ∃ fd, FunD K "law" "law" (defArgs sLaw) (defBody sLaw) (defScope sLaw) [] [] (He.ga K "law") fd := c.def_ 28
  have F29 := fun_of FD29
  have m29 := He.glo_ok X G (c.fact 28 (f := fun K => (He.Fa.glo "law").ok K) rfl)
  have aCH := He.glo_ok X G (c.fact 29 (f := fun K => (He.Fa.glo "House").ok K) rfl)
  obtain ⟨fdHIn, FDHIn⟩ : ∃ fd, FunD K "__init__" "House.__init__" (defArgs mInit) (defBody mInit) (defScope mInit) [.ref (He.dflAt ("House", some "__init__") 0 K)] [] (He.ma K (He.ga K "House") "__init__") fd := c.def_ 29
  obtain ⟨dsHIn, vHIn, bbHIn⟩ := FDHIn.binds1 (ps := ["self", "table"]) 2 1 (by simp) rfl fun _ _ _ _ _ _ _ us its h1 h2 => by
    match us, its, h1, h2 with
    | [u0, u1], [w0], _, _ => exact ⟨_, rfl, rfl⟩
  have bHIn : Binds _ _ _ _ := bbHIn
  cases vHIn
  obtain ⟨dzHIn, vzHIn, bzHIn⟩ := FDHIn.binds1 (ps := ["self", "table"]) 1 0 (by simp) rfl fun _ _ _ _ _ _ _ us its h1 h2 => by
    match us, its, h1, h2 with
    | [u0], [w0], _, _ => exact ⟨_, rfl, rfl⟩
  have e0HIn := tup0_ok (c.fact 31 (f := fun K => tup0B K (He.dflAt ("House", some "__init__") 0 K)) rfl)
  have mkTH := He.mkr_ok (c.fact 32 (f := fun K => (He.Fa.mkr "House").ok K) rfl)
  obtain ⟨fdHCh, FDHCh⟩ : ∃ fd, FunD K "change" "House.change" (defArgs mChange) (defBody mChange) (defScope mChange) [] [] (He.ma K (He.ga K "House") "change") fd := c.def_ 30
  have FHCh := fun_of FDHCh
  have bHCh := FHCh.binds (ps := ["self", "changes"]) fun _ _ _ _ _ _ us hl => match us, hl with | [_, _], _ => rfl
  have qHCh := He.meth_ok (c.fact 33 (f := fun K => (He.Fa.meth "House" "change").ok K) rfl)
  obtain ⟨fdHTa, FDHTa⟩ : ∃ fd, FunD K "table" "House.table" (defArgs mTable) (defBody mTable) (defScope mTable) [] [] (He.ma K (He.ga K "House") "table") fd := c.def_ 31
  have FHTa := fun_of FDHTa
  have bHTa := FHTa.binds (ps := ["self"]) fun _ _ _ _ _ _ us hl => match us, hl with | [_], _ => rfl
  have qHTa := He.meth_ok (c.fact 34 (f := fun K => (He.Fa.meth "House" "table").ok K) rfl)
  obtain ⟨fdHPl, FDHPl⟩ : ∃ fd, FunD K "places" "House.places" (defArgs mPlaces) (defBody mPlaces) (defScope mPlaces) [] [] (He.ma K (He.ga K "House") "places") fd := c.def_ 32
  have FHPl := fun_of FDHPl
  have bHPl := FHPl.binds (ps := ["self"]) fun _ _ _ _ _ _ us hl => match us, hl with | [_], _ => rfl
  have qHPl := He.meth_ok (c.fact 35 (f := fun K => (He.Fa.meth "House" "places").ok K) rfl)
  obtain ⟨fdHEn, FDHEn⟩ : ∃ fd, FunD K "entries" "House.entries" (defArgs mEntries) (defBody mEntries) (defScope mEntries) [] [] (He.ma K (He.ga K "House") "entries") fd := c.def_ 33
  have FHEn := fun_of FDHEn
  have qHEn := He.meth_ok (c.fact 36 (f := fun K => (He.Fa.meth "House" "entries").ok K) rfl)
  have TH : HTx K mg (He.ga K "House") := ⟨He.cls_ok (c.fact 30 (f := fun K => (He.Fa.cls "House").ok K) rfl), He.noat_ok (c.fact 37 (f := fun K => (He.Fa.noat "House" "worths").ok K) rfl), He.noat_ok (c.fact 38 (f := fun K => (He.Fa.noat "House" "kept").ok K) rfl), He.noat_ok (c.fact 39 (f := fun K => (He.Fa.noat "House" "first_kept").ok K) rfl), He.noat_ok (c.fact 40 (f := fun K => (He.Fa.noat "House" "lives_given").ok K) rfl), He.noat_ok (c.fact 41 (f := fun K => (He.Fa.noat "House" "begun").ok K) rfl), He.noat_ok (c.fact 42 (f := fun K => (He.Fa.noat "House" "living").ok K) rfl), He.noat_ok (c.fact 43 (f := fun K => (He.Fa.noat "House" "running").ok K) rfl), aCH⟩
  have zEN := He.ba (c.fact 46 (f := fun K => eqE K "NoTable" && excB K (He.ga K "NoTable") flNt) rfl)
  have EN : ExC K mg "NoTable" (He.ga K "NoTable") flNt := excB_ok X G (He.eqO_ok zEN.1) zEN.2
  have d0N : OwnE0 K mg "NoTable" (He.ga K "NoTable") He.veBase := by
    have z := He.exc_ok (c.fact 45 (f := fun K => (He.Fa.exc "NoTable").ok K) rfl)
    exact ⟨z.1, He.glo_ok X G (c.fact 44 (f := fun K => (He.Fa.glo "NoTable").ok K) rfl), z.2.1, z.2.2.1, z.2.2.2⟩
  have zEG := He.ba (c.fact 49 (f := fun K => eqE K "NoChange" && excB K (He.ga K "NoChange") flNc) rfl)
  have EG : ExC K mg "NoChange" (He.ga K "NoChange") flNc := excB_ok X G (He.eqO_ok zEG.1) zEG.2
  have d0G : OwnE0 K mg "NoChange" (He.ga K "NoChange") He.veBase := by
    have z := He.exc_ok (c.fact 48 (f := fun K => (He.Fa.exc "NoChange").ok K) rfl)
    exact ⟨z.1, He.glo_ok X G (c.fact 47 (f := fun K => (He.Fa.glo "NoChange").ok K) rfl), z.2.1, z.2.2.1, z.2.2.2⟩
  obtain ⟨IM, WM, AM, xoM⟩ := xc_ok (P := P) (fld := "many") (fl := flTm) X G xP (c.exc 0) (by have h := c.fact 50 (f := fun K => xcB K fileN "TooMany" "many" flTm) rfl; rw [← xFile] at h; exact h)
  have EM : ExC K mg "TooMany" (He.ga K "TooMany") flTm := xoM.E
  have xNM : PySem.W.findIn K (.ref (He.ga K "TooMany")) "many" = some none := xoM.no
  have mTE := He.glo_ok X G (c.fact 51 (f := fun K => (He.Fa.glo "TideError").ok K) rfl)
  have eTG := He.exm_ok (c.fact 52 (f := fun K => (He.Fa.exm "NoChange" "TideError" true).ok K) rfl)
  have eTM := He.exm_ok (c.fact 53 (f := fun K => (He.Fa.exm "TooMany" "TideError" true).ok K) rfl)
  have N : Names mg := ⟨He.free_ok X G (c.fact 54 (f := fun K => (He.Fa.free "isinstance").ok K) rfl), He.free_ok X G (c.fact 55 (f := fun K => (He.Fa.free "int").ok K) rfl), He.free_ok X G (c.fact 56 (f := fun K => (He.Fa.free "bool").ok K) rfl), He.free_ok X G (c.fact 57 (f := fun K => (He.Fa.free "tuple").ok K) rfl), He.free_ok X G (c.fact 58 (f := fun K => (He.Fa.free "list").ok K) rfl), He.free_ok X G (c.fact 59 (f := fun K => (He.Fa.free "str").ok K) rfl), He.free_ok X G (c.fact 60 (f := fun K => (He.Fa.free "len").ok K) rfl), He.free_ok X G (c.fact 61 (f := fun K => (He.Fa.free "set").ok K) rfl), He.free_ok X G (c.fact 62 (f := fun K => (He.Fa.free "sorted").ok K) rfl), He.free_ok X G (c.fact 63 (f := fun K => (He.Fa.free "range").ok K) rfl), He.free_ok X G (c.fact 64 (f := fun K => (He.Fa.free "abs").ok K) rfl), He.free_ok X G (c.fact 65 (f := fun K => (He.Fa.free "min").ok K) rfl), He.free_ok X G (c.fact 66 (f := fun K => (He.Fa.free "max").ok K) rfl), He.free_ok X G (c.fact 67 (f := fun K => (He.Fa.free "dict").ok K) rfl), He.free_ok X G (c.fact 68 (f := fun K => (He.Fa.free "all").ok K) rfl), He.free_ok X G (c.fact 69 (f := fun K => (He.Fa.free "ValueError").ok K) rfl), He.int_ok X G (c.fact 70 (f := fun K => (He.Fa.int "KEYS" 1000).ok K) rfl), He.int_ok X G (c.fact 71 (f := fun K => (He.Fa.int "WORTHS" 1000).ok K) rfl), He.int_ok X G (c.fact 72 (f := fun K => (He.Fa.int "MOST_ROWS" 100).ok K) rfl), He.int_ok X G (c.fact 73 (f := fun K => (He.Fa.int "MOST_CHANGES" 6).ok K) rfl)⟩
  have e := hfa.symm.trans m29
  cases e
  have bl := FunD.bindsA (ps := ["script"]) FD29 fun _ _ _ _ _ _ us hl => match us, hl with | [_], _ => rfl
  refine ⟨fd29, fun s v => bl s [v] rfl, fun base _ _ => ?_⟩
  have dXM : OwnE P w K mg base "TooMany" (He.ga K "TooMany") ["self", "many"] 1 (spX1 (He.ga K "TooMany") "many") := by
    obtain ⟨oc, od, sl, kv, dc, pm, an, ct, lk⟩ := xoM.F
    exact ⟨_, _, ok_XTm (k := 0) lk xoM.cd xoM.T xoM.cW xoM.no xoM.Z, xoM.T, xoM.iC, xoM.tI, xoM.mgC, .all fun us hl => match us, hl with | [_, _], _ => rfl⟩
  have dNum : Own P w K mg base "is_number" ["thing"] 1 (spTold K isNum) := ⟨_, _, ok_num (k := 0) F1 N, m1, F1.kp, b1⟩
  have dKey : Own P w K mg base "is_key" ["thing"] 2 (spTold K isKey) := ⟨_, _, ok_key F2 N dNum, m2, F2.kp, b2⟩
  have dWor : Own P w K mg base "is_worth" ["thing"] 2 (spTold K isKey) := ⟨_, _, ok_worth F3 N dNum, m3, F3.kp, b3⟩
  have dRow : Own P w K mg base "is_row" ["thing"] 3 (spTold K isRow) := ⟨_, _, ok_row F4 N dKey dWor, m4, F4.kp, b4⟩
  have dRows : Own P w K mg base "is_rows" ["thing", "first", "last"] 4 (spRowsT K) := ⟨_, _, ok_rows F5 N dRow, m5, F5.kp, b5⟩
  have dI : Own P w K mg base "is_table" ["thing"] 5 (spTold K isTable) := ⟨_, _, ok_table F6 N dRows, m6, F6.kp, b6⟩
  have dRi : Own P w K mg base "rising" ["rows"] 1 (spRising K) := ⟨_, _, ok_rising (k := 0) F11 N, m11, F11.kp, b11⟩
  have dCh : Own P w K mg base "is_change" ["thing"] 3 (spTold K isCh) := ⟨_, _, ok_ch F7 N dKey dWor, m7, F7.kp, b7⟩
  have dG : Own P w K mg base "is_group" ["thing"] 4 (spTold K isGr) := ⟨_, _, ok_gr F8 N dCh, m8, F8.kp, b8⟩
  have dCo : Own P w K mg base "changes_of" ["entry"] 1 (spChsOf K) := ⟨_, _, ok_chsOf (k := 0) F9 N, m9, F9.kp, b9⟩
  have dCa : Own P w K mg base "carry" ["rows", "log", "low", "high"] 2 (spCarryM K) := ⟨_, _, ok_carry (k := 1) F10 N dCo (by decide), m10, F10.kp, b10⟩
  have dT : Own P w K mg base "_law_take" ["bag", "man1"] 1 spTake := ⟨_, _, ok_take (k := 0) F13, m13, F13.kp, b13⟩
  have dB : Own P w K mg base "_law_bag" ["script", "k"] 1 (spBag K) := ⟨_, _, ok_bag (k := 0) F12 N, m12, F12.kp, b12⟩
  have dOf : Own P w K mg base "_law_of" ["bag", "some"] 2 spOf := ⟨_, _, ok_of (k := 1) (kO := 0) (kC := 0) F14 N dT (by decide), m14, F14.kp, b14⟩
  have dW : Own P w K mg base "_law_within" ["thing", "least", "most"] 1 (spWithin K) := ⟨_, _, ok_within (k := 0) F15 N, m15, F15.kp, b15⟩
  have dO : Own P w K mg base "_law_odd" ["bag"] 2 (spNew K (gd 0 3)) := ⟨_, _, ok_odd F17 N dT, m17, F17.kp, b17⟩
  have dKs : Own P w K mg base "_law_keys" ["bag"] 2 spKeysR := ⟨_, _, ok_keys F19 N dT, m19, F19.kp, b19⟩
  have dTab : Own P w K mg base "_law_table" ["bag", "keys"] 2 (spTabR K) := ⟨_, _, ok_tab F20 N dT, m20, F20.kp, b20⟩
  have dLC : Own P w K mg base "_law_changes" ["bag", "keys", "most"] 3 (spChsL K) := ⟨_, _, ok_chs (k := 2) (kC := 0) F21 N dT (by decide) dOf (by decide), m21, F21.kp, b21⟩
  have dIC : Own P w K mg base "_law_is_change" ["thing"] 2 (spTold K isCh) := ⟨_, _, ok_isch F22 N dW, m22, F22.kp, b22⟩
  have dAc : Own P w K mg base "_law_are_changes" ["thing"] 3 (spTold K isGr) := ⟨_, _, ok_arech F23 N dIC, m23, F23.kp, b23⟩
  have dDn : Own P w K mg base "_law_done" ["rows", "changes"] 1 (spDone K) := ⟨_, _, ok_done (k := 0) F24, m24, F24.kp, b24⟩
  have dPs : Own P w K mg base "_law_pairs" ["rows"] 1 (spPairs K) := ⟨_, _, ok_pairs (k := 0) F25 N, m25, F25.kp, b25⟩
  have dS : Own P w K mg base "_law_spoilt" ["bag", "thing"] 23 (spSpU K) := ⟨_, _, ok_spU fun n hn => (ok_sp (k := 2) F18 m18 b18 N dT (by decide) dO (by decide) n).mono (by omega), m18, F18.kp, b18⟩
  have dKi : OwnP P w K mg base "_law_kinds" ["e"] 1 (spKinds K mg) := ⟨_, _, ok_kinds (k := 0) F16 N, m16, F16.kp, b16⟩
  have dFi : OwnP P w K mg base "_law_field" ["e"] 1 (spFieldN K mg) := ⟨_, _, ok_field (k := 0) F27 N, m27, F27.kp, b27⟩
  have KI : FnOk P w K mg base (L2N.CX P w) 6 _ _ ["self", "table"] (spHInit K (He.ga K "House") (He.ga K "NoTable")) := ok_hinit (k := 5) FDHIn TH PySem.F.excBase_ValueError d0N dI (by decide)
  have mTa : MethX P w K mg base (He.ga K "House") "table" ["self"] 2 (spHTab K (He.ga K "House")) := ⟨_, _, ok_htab (k := 1) FHTa TH dRi (by decide), bHTa, qHTa⟩
  have mPl : MethX P w K mg base (He.ga K "House") "places" ["self"] 1 (spHPl (He.ga K "House")) := ⟨_, _, ok_hpl (k := 0) FHPl N TH, bHPl, qHPl⟩
  have mCh : MethX P w K mg base (He.ga K "House") "change" ["self", "changes"] 6 (spHCh K (He.ga K "House") (He.ga K "NoChange") (He.ga K "TooMany")) := ⟨_, _, ok_hch (k := 5) FHCh N TH PySem.F.excBase_ValueError d0G dG (by decide) dCa (by decide) dXM (by decide), bHCh, qHCh⟩
  have mEn : MethXN P w K mg base (He.ga K "House") "entries" ["self", "place", "many"] 1 ["many"] 2 (spHEn (He.ga K "House")) := ⟨_, _, ok_hen (k := 1) FHEn N TH mPl (by decide), kb_en FHEn, qHEn⟩
  have dCl : OwnX P w K mg base "_law_house_call" ["house", "step"] 7 (spCall K (He.ga K "House") (He.ga K "NoChange") (He.ga K "TooMany")) := ⟨_, _, ok_call (k := 6) F26 TH mCh (by decide), m26, F26.kp, b26⟩
  have dTr : Own P w K mg base "_law_house_tried" ["house", "step"] 8 (spTried K (He.ga K "House")) := ⟨_, _, ok_tried (k := 7) F28 mTE EG eTG EM eTM xNM dCl (by decide) dKi (by decide) dFi (by decide), m28, F28.kp, b28⟩
  exact ok_law (k := 25) F29 N TH mkTH KI (by decide) bHIn mTa (by decide) mPl (by decide) mEn (by decide) dT (by decide) dO (by decide) dS (by decide) dB (by decide) dTab (by decide) dKs (by decide) dLC (by decide) dAc (by decide) dDn (by decide) dPs (by decide) dTr (by decide)
abbrev R : PySem.W.OpenRow := PySem.W.OpenLaw.row PySem.Challenge.rw_tidecopy_k13_groups_done
abbrev hk : PySem.W.Hook := hookM 5 hfs hfn hxs
def ob (s : PySem.W.SharedT) : AlM := obsMG 5 hfs hfn hxs (HandSHeadRun.getT s)
theorem ob_eq (s : PySem.W.SharedT) : ob s = hk.obs s.abs := obsMG_eq (HandSHeadRun.getT_eq s)
def loose : List Str := (["_wall", "TideError", "ToldError", "AskedError", "NoTable", "NoChange", "NoStretch", "NoRows", "NoName", "NoText", "NoRow", "TooMany", "Twice", "NoPlace", "NoLife", "NoReading", "Ended", "NotEnded", "Held", "Trimmed", "Waits", "NotAsked", "NoKey", "NotSure", "NoTaker", "NotOnWire", "NothingLeft", "KEYS", "WORTHS", "MOST_ROWS", "MOST_CHANGES", "is_number", "is_key", "is_worth", "is_row", "is_rows", "is_table", "is_change", "is_group", "changes_of", "carry", "rising", "is_stretch", "least_row", "FEW", "Reading", "House", "_law_bag", "_law_take", "_law_of", "_law_within", "_law_kinds", "_law_odd", "_law_spoilt", "_law_keys", "_law_table", "_law_changes", "_law_is_change", "_law_are_changes", "_law_done", "_law_pairs", "_law_house_call", "_law_field", "_law_house_tried"] : List String).map Str.ofString
end K13
set_option maxHeartbeats 0
namespace K13
open PySem L2 PyProof.Rows Tc
theorem run (w : World) : HandSHeadRun.RunEq R (PySem.W.view R.prog [69]) hk ob 20000 loose w := by
  intro os
  kernel_rfl
end K13
open PySem PySem.W PyProof.Rows
theorem PySem.Challenge.cw_tidecopy_k13_groups_done_holds : PySem.Challenge.rw_tidecopy_k13_groups_done.Holds := by
  w_on; o_law
  refine HandSHeadRun.head_any (r := OpenLaw.row PySem.Challenge.rw_tidecopy_k13_groups_done) (q := view (OpenLaw.row PySem.Challenge.rw_tidecopy_k13_groups_done).prog [69]) (H := K13.hk) (ob := K13.ob) (M := 20000) (loose := K13.loose) (d := HandSHeadRun.topDef (OpenLaw.row PySem.Challenge.rw_tidecopy_k13_groups_done).prog 69) (kwd := []) K13.ob_eq
    (by kernel_rfl) (fun s => by kernel_rfl) K13.run (by kernel_rfl) (by kernel_rfl) (by kernel_rfl) (by rfl) (by first | assumption | decide +kernel) (by decide +kernel) ⟨rfl, rfl, rfl, rfl, rfl, by decide +kernel⟩ ?hw ?hc
  case hw => w_witness2
  case hc =>
    refine L2.walk_ofE (l := PySem.Challenge.rw_tidecopy_k13_groups_done) (n := 63) (k := 26) (x := "script") (CX := L2.CX0) rfl (by decide) (by kernel_rfl) ⟨rfl, by decide, by decide⟩ ?F (fun _ _ _ _ z => z)
    intro w mg fa h Y G hmg0
    obtain ⟨K, KX, c⟩ := Y
    have hmg : mg ("law" : PySem.Str) = some (.ref fa) := by
      have e : (HandSHeadRun.topDef (OpenLaw.row PySem.Challenge.rw_tidecopy_k13_groups_done).prog 69).name = ("law" : PySem.Str) := by kernel_rfl
      rw [← e]
      exact hmg0
    obtain ⟨fd, hb, hF⟩ := K13.all_mk (P := (PySem.Challenge.rw_tidecopy_k13_groups_done).prog) (w := w) KX G hmg rfl (by kernel_rfl) c
    exact ⟨K, fd, K13.spLaw K, KX, hb, fun H a ns hl _ hS => ⟨a, ns, rfl, hS, hl, fun _ => rfl⟩, hF⟩
