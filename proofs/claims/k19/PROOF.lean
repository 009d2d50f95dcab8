import PyProof.Rows.All
import Wide.All
import OpenK.AllK
import Wide.FinOn
import PyProof.NeKinds
import HandS.ForMost
import HandS.IsInst
import HandS.Conv
import HandS.Codes
import HandS.Evl
import HandS.Strs
import HandS.SetFor
import HandS.SortInts
import HandS.Steps
import PyProof.Rows.IntBool
import PyProof.CallStr
import PyProof.FitsInt
import PyProof.EqKinds
import HandS.Style
import HandS.TupMul
import HandS.SetBool
import HandS.DictComp
import KE.KDictPairs
import HandS.WordsDict
import HandS.Iter
import HandS.SortKw
import KE.GoesEnumKw
import HandS.More
import HandS.OwnEq
import HandS.OwnIter
import HandS.Dict
import HandS.ExcInit
import HandS.Nested
import KE.KExcSuper
import HandS.HotCalls
import HandS.ExcField
import HandS.WordsExc
import KE.KExcIs
import HandS.FStr
import HandS.Text
import HandS.ExcInitHot
import HandS.Defaults
import HandS.CallSlots
import HandS.TupAny
import HandS.ForDict
import HandS.MakeKwOnly
import HandS.Wide
import PySem.Challenge.RW_tidecopy_k19_new_takers
set_option Elab.async false
set_option linter.all false
set_option maxRecDepth 100000
namespace Tc
open PySem L2
/-- a def of the text under its name, with its promise -/
def Own (P : Program) (w : World) (K : PySem.W.Frag) (mg : Str → Option Value) (base : Heap) (x : Str) (ps : List Str) (k : Nat) (sp : Sp) : Prop :=
  ∃ (f : Addr) (fd : FuncData), FnOk P w K mg base CX0 k f fd ps sp ∧ mg x = some (.ref f) ∧ PySem.W.keepIn K (.ref f) = true ∧ Binds K fd ps []
theorem pe_own {X : Cx} {x : Str} {ps : List Str} {k j : Nat} {sp : Sp} {e : Expr} {es : List Expr} {t : TA} {p pos : Pos} (d : Own X.prog X.w X.K X.mg X.base x ps k sp) (hr : Room j X.A) (hj : k ≤ j) (hg : Gl X x) (ha : PA X (e :: es) t)
    (he : starEach (e :: es) X.env = (false, eval e X.env) :: starEach es X.env := by rfl) (hdb : (x == ("__debug__" : Str)) = false := by decide) (hpl : (backTo pos (starEach es X.env)).any (·.1) = false := by rfl) :
    PE X (.Call (.Name x p) (e :: es) [] pos) (tCall sp [] E0 t) := by
  obtain ⟨f, fd, F, hm, hk, hb⟩ := d
  exact pe_call F (hr.mono hj) hg hm hk hb .nil pass0 ha hdb he hpl

/-! ### one object hidden: the bag of draws, which changes -/
def hid (b : Addr) (H : Hp) : Hp := fun a => if a = b then none else H a
theorem hid_same (b : Addr) (H : Hp) : Same (hid b H) H := fun a o h => by
  unfold hid at h
  split at h
  · cases h
  · exact h
theorem hid_at {b a : Addr} {H : Hp} {o : HO} (h : H a = some o) (n : a ≠ b) : hid b H a = some o := by
  unfold hid
  rw [if_neg n]
  exact h
theorem hid_self (b : Addr) (H : Hp) : hid b H b = none := by
  unfold hid
  rw [if_pos rfl]
theorem hid_upd (b : Addr) (H : Hp) (o : HO) : hid b (upd H b o) = hid b H := by
  funext a
  unfold hid
  by_cases h : a = b
  · rw [if_pos h, if_pos h]
  · rw [if_neg h, if_neg h, upd_ne h]
theorem hid_new {b : Addr} {H : Hp} (h : H b = none) : hid b H = H := by
  funext a
  unfold hid
  by_cases e : a = b
  · rw [if_pos e, e, h]
  · rw [if_neg e]
/-- the bag at b, and all else as it was or more -/
def Bag (H : Hp) (b : Addr) : Prop := ∃ x y : Int, H b = some (.lst [.int x, .int y]) ∧ 0 ≤ x ∧ 0 ≤ y ∧ y < 2147483648
structure Fr (b : Addr) (H H' : Hp) : Prop where
  bag : Bag H' b
  sm : Same (hid b H) (hid b H')
theorem Fr.refl {b : Addr} {H : Hp} (h : Bag H b) : Fr b H H := ⟨h, Same.refl _⟩
theorem Fr.trans {b : Addr} {H H1 H2 : Hp} (x : Fr b H H1) (y : Fr b H1 H2) : Fr b H H2 := ⟨y.bag, x.sm.trans y.sm⟩
theorem Bag.ne {b p : Addr} {H : Hp} (h : Bag H b) (n : H p = none) : p ≠ b := fun e => by
  obtain ⟨x, y, h, _⟩ := h
  rw [e, h] at n
  cases n
theorem Fr.new {b p : Addr} {H : Hp} {o : HO} (h : Bag H b) (n : H p = none) : Fr b H (upd H p o) := by
  have hp := h.ne n
  refine ⟨?_, fun a u e => ?_⟩
  · obtain ⟨x, y, h, r⟩ := h
    exact ⟨x, y, by rw [upd_ne hp.symm]; exact h, r⟩
  · have e1 := hid_same b H a u e
    have e2 : a ≠ b := fun z => by
      rw [z, hid_self] at e
      cases e
    exact hid_at (by rw [upd_ne (ne_of_none e1 n)]; exact e1) e2
/-- an object made on the way may change -/
theorem Fr.mut {b p : Addr} {H H' : Hp} {o : HO} (x : Fr b H H') (n : H p = none) (hb : p ≠ b) : Fr b H (upd H' p o) := by
  refine ⟨?_, fun a u e => ?_⟩
  · obtain ⟨x1, y, h, r⟩ := x.bag
    exact ⟨x1, y, by rw [upd_ne hb.symm]; exact h, r⟩
  · have e1 := hid_same b H a u e
    have e3 := x.sm a u e
    have e4 := hid_same b H' a u e3
    have e2 : a ≠ b := fun z => by
      rw [z, hid_self] at e
      cases e
    exact hid_at (by rw [upd_ne (ne_of_none e1 n)]; exact e4) e2
theorem Fr.at {b a : Addr} {H H' : Hp} {o : HO} (x : Fr b H H') (h : H a = some o) (n : a ≠ b) : H' a = some o := hid_same b H' a o (x.sm a o (hid_at h n))
theorem Fr.free {b p : Addr} {H H' : Hp} (x : Fr b H H') (hb : Bag H b) (h : H' p = none) : H p = none := by
  have hp : p ≠ b := x.bag.ne h
  cases e : H p with
  | none => rfl
  | some o =>
    rw [x.at e hp] at h
    cases h

/-! ### data -/
mutual
theorem dp_same {K : PySem.W.Frag} {H H' : Hp} (e : Same H H') : ∀ (d : PyData) (v : V), Dp K H v d → Dp K H' v d
  | _, _, .non => .non
  | _, _, .bl b => .bl b
  | _, _, .int i => .int i
  | _, _, .str x => .str x
  | _, _, .lst h r => .lst (Evl.ex_l e h) (dps_same e _ _ r)
  | _, _, .tup h r => .tup (Evl.ex_t e h) (dps_same e _ _ r)
theorem dps_same {K : PySem.W.Frag} {H H' : Hp} (e : Same H H') : ∀ (ds : List PyData) (vs : List V), DpAll K H vs ds → DpAll K H' vs ds
  | _, _, .nil => .nil
  | _, _, .cons h r => .cons (dp_same e _ _ h) (dps_same e _ _ r)
end
theorem dps_len {K : PySem.W.Frag} {H : Hp} : ∀ {vs : List V} {ds : List PyData}, DpAll K H vs ds → vs.length = ds.length
  | _, _, .nil => rfl
  | _, _, .cons _ r => congrArg (· + 1) (dps_len r)
theorem dps_at {K : PySem.W.Frag} {H : Hp} : ∀ {vs : List V} {ds : List PyData} {i : Nat} {v : V}, DpAll K H vs ds → vs[i]? = some v → ∃ d, ds[i]? = some d ∧ Dp K H v d
  | _, _, 0, _, .cons h r, e => ⟨_, rfl, by cases e; exact h⟩
  | _, _, i + 1, _, .cons h r, e => dps_at (i := i) r e
theorem dps_at' {K : PySem.W.Frag} {H : Hp} : ∀ {vs : List V} {ds : List PyData} {i : Nat} {d : PyData}, DpAll K H vs ds → ds[i]? = some d → ∃ v, vs[i]? = some v ∧ Dp K H v d
  | _, _, 0, _, .cons h r, e => ⟨_, rfl, by cases e; exact h⟩
  | _, _, i + 1, _, .cons h r, e => dps_at' (i := i) r e
theorem dps_app {K : PySem.W.Frag} {H : Hp} : ∀ {vs ws : List V} {ds es : List PyData}, DpAll K H vs ds → DpAll K H ws es → DpAll K H (vs ++ ws) (ds ++ es)
  | _, _, _, _, .nil, q => q
  | _, _, _, _, .cons h r, q => .cons h (dps_app r q)
theorem dps_take {K : PySem.W.Frag} {H : Hp} : ∀ {vs : List V} {ds : List PyData} (n : Nat), DpAll K H vs ds → DpAll K H (vs.take n) (ds.take n)
  | _, _, 0, _ => .nil
  | _, _, n + 1, .nil => .nil
  | _, _, n + 1, .cons h r => .cons h (dps_take n r)
theorem dps_drop {K : PySem.W.Frag} {H : Hp} : ∀ {vs : List V} {ds : List PyData} (n : Nat), DpAll K H vs ds → DpAll K H (vs.drop n) (ds.drop n)
  | _, _, 0, r => r
  | _, _, n + 1, .nil => .nil
  | _, _, n + 1, .cons h r => dps_drop n r
theorem dps_set {K : PySem.W.Frag} {H : Hp} : ∀ {vs : List V} {ds : List PyData} {v : V} {d : PyData} (n : Nat), DpAll K H vs ds → Dp K H v d → DpAll K H (vs.set n v) (ds.set n d)
  | _, _, _, _, _, .nil, _ => .nil
  | _, _, _, _, 0, .cons h r, q => .cons q r
  | _, _, _, _, n + 1, .cons h r, q => .cons h (dps_set n r q)
theorem dps_mem {K : PySem.W.Frag} {H : Hp} : ∀ {vs : List V} {ds : List PyData} {v : V}, DpAll K H vs ds → v ∈ vs → ∃ d ∈ ds, Dp K H v d
  | _, _, _, .cons h r, m => by
    rcases List.mem_cons.mp m with e | m
    · exact ⟨_, List.mem_cons_self, e ▸ h⟩
    · obtain ⟨d, a, b⟩ := dps_mem r m
      exact ⟨d, List.mem_cons_of_mem _ a, b⟩
/-! ### kinds -/
def tyN : PyData → String
  | .none => "NoneType"
  | .bool _ => "bool"
  | .int _ => "int"
  | .str _ => "str"
  | .list _ => "list"
  | .tuple _ => "tuple"
  | .dict _ => "dict"
theorem ty_tup {K : PySem.W.Frag} {H : Hp} {a : Addr} {xs : List V} (h : SqT K H a xs) : TyX K H (.ref a) (.type "tuple") := by
  rcases h with (h | ⟨o, h⟩) | ⟨o, its, n, hk, hc, _⟩
  · exact .base (.tup h)
  · exact .fTuple h
  · exact .kTuple hk hc
theorem ty_lst {K : PySem.W.Frag} {H : Hp} {a : Addr} {xs : List V} (h : SqL K H a xs) : TyX K H (.ref a) (.type "list") := by
  rcases h with (h | ⟨o, h⟩) | ⟨o, its, n, hk, hc, _⟩
  · exact .base (.lst h)
  · exact .base (.frz h)
  · exact .kList hk hc
theorem ty_dp {K : PySem.W.Frag} {H : Hp} {v : V} {d : PyData} (h : Dp K H v d) : TyX K H v (.type (tyN d)) := by
  cases h with
  | non => exact .base .non
  | bl b => exact .base (.bl b)
  | int i => exact .base (.int i)
  | str z => exact .base (.str z)
  | lst h r => exact ty_lst h
  | tup h r => exact ty_tup h
theorem dp_nodict {K : PySem.W.Frag} {H : Hp} {v : V} {d : PyData} (h : Dp K H v d) : ∀ kv, d ≠ .dict kv := by
  cases h <;> intro kv z <;> cases z
/-- isinstance of data -/
theorem isi {K : PySem.W.Frag} {H : Hp} {v : V} {d : PyData} {c : String} {b : Bool} {Q : VK} (h : Dp K H v d) (k : kitB (tyN d) c = some b) (q : Q (.bl b) H) : rIsi K [v, .ty c] H Q :=
  ⟨v, .ty c, .type (tyN d), .type c, b, rfl, .ty c, ty_dp h, kit_ty k, q⟩
def isInt : PyData → Bool
  | .int _ => true | .bool _ => true | _ => false
def isBool : PyData → Bool
  | .bool _ => true | _ => false
def isTup : PyData → Bool
  | .tuple _ => true | _ => false
def isLst : PyData → Bool
  | .list _ => true | _ => false
def isStr : PyData → Bool
  | .str _ => true | _ => false
theorem kit_int {d : PyData} (n : ∀ kv, d ≠ .dict kv) : kitB (tyN d) "int" = some (isInt d) := by
  cases d with
  | none => exact (by decide +kernel : kitB "NoneType" "int" = some false)
  | bool _ => exact (by decide +kernel : kitB "bool" "int" = some true)
  | int _ => exact (by decide +kernel : kitB "int" "int" = some true)
  | str _ => exact (by decide +kernel : kitB "str" "int" = some false)
  | list _ => exact (by decide +kernel : kitB "list" "int" = some false)
  | tuple _ => exact (by decide +kernel : kitB "tuple" "int" = some false)
  | dict kv => exact absurd rfl (n kv)
theorem kit_bool {d : PyData} (n : ∀ kv, d ≠ .dict kv) : kitB (tyN d) "bool" = some (isBool d) := by
  cases d with
  | none => exact (by decide +kernel : kitB "NoneType" "bool" = some false)
  | bool _ => exact (by decide +kernel : kitB "bool" "bool" = some true)
  | int _ => exact (by decide +kernel : kitB "int" "bool" = some false)
  | str _ => exact (by decide +kernel : kitB "str" "bool" = some false)
  | list _ => exact (by decide +kernel : kitB "list" "bool" = some false)
  | tuple _ => exact (by decide +kernel : kitB "tuple" "bool" = some false)
  | dict kv => exact absurd rfl (n kv)
theorem kit_tuple {d : PyData} (n : ∀ kv, d ≠ .dict kv) : kitB (tyN d) "tuple" = some (isTup d) := by
  cases d with
  | none => exact (by decide +kernel : kitB "NoneType" "tuple" = some false)
  | bool _ => exact (by decide +kernel : kitB "bool" "tuple" = some false)
  | int _ => exact (by decide +kernel : kitB "int" "tuple" = some false)
  | str _ => exact (by decide +kernel : kitB "str" "tuple" = some false)
  | list _ => exact (by decide +kernel : kitB "list" "tuple" = some false)
  | tuple _ => exact (by decide +kernel : kitB "tuple" "tuple" = some true)
  | dict kv => exact absurd rfl (n kv)
theorem kit_list {d : PyData} (n : ∀ kv, d ≠ .dict kv) : kitB (tyN d) "list" = some (isLst d) := by
  cases d with
  | none => exact (by decide +kernel : kitB "NoneType" "list" = some false)
  | bool _ => exact (by decide +kernel : kitB "bool" "list" = some false)
  | int _ => exact (by decide +kernel : kitB "int" "list" = some false)
  | str _ => exact (by decide +kernel : kitB "str" "list" = some false)
  | list _ => exact (by decide +kernel : kitB "list" "list" = some true)
  | tuple _ => exact (by decide +kernel : kitB "tuple" "list" = some false)
  | dict kv => exact absurd rfl (n kv)
theorem kit_str {d : PyData} (n : ∀ kv, d ≠ .dict kv) : kitB (tyN d) "str" = some (isStr d) := by
  cases d with
  | none => exact (by decide +kernel : kitB "NoneType" "str" = some false)
  | bool _ => exact (by decide +kernel : kitB "bool" "str" = some false)
  | int _ => exact (by decide +kernel : kitB "int" "str" = some false)
  | str _ => exact (by decide +kernel : kitB "str" "str" = some true)
  | list _ => exact (by decide +kernel : kitB "list" "str" = some false)
  | tuple _ => exact (by decide +kernel : kitB "tuple" "str" = some false)
  | dict kv => exact absurd rfl (n kv)
/-! ### a list beside the empty one -/
def rNeE (K : PySem.W.Frag) : R2 := fun x y H Q => ∃ (a b : Addr) (xs : List V), x = .ref a ∧ y = .ref b ∧ SqL K H a xs ∧ SqL K H b [] ∧ Q (.bl (!xs.isEmpty)) H
theorem op_neE {X : Cx} (hu : X.A.units + 64 < cLine) : OpR X (compareOp .NotEq) (rNeE X.K) := by
  intro pins s σ H x y v u Q I rx ry h
  obtain ⟨a, b, xs, rfl, rfl, ha, hb, q⟩ := h
  cases xs with
  | nil => exact op_neD hu pins s σ H _ _ v u Q I rx ry ⟨.list [], .list [], .lst ha .nil, .lst hb .nil, rfl, rfl, q⟩
  | cons z zs =>
    cases (show v = Value.ref a from rx)
    cases (show u = Value.ref b from ry)
    obtain ⟨i1, r1, l1, _⟩ := I.list ha
    obtain ⟨i2, r2, l2, _⟩ := I.list hb
    have h1 : (i1.toArray.size != i2.toArray.size) = true := by
      have e1 := r1.length
      have e2 := r2.length
      simp only [List.size_toArray]
      rw [← e1, ← e2]
      rfl
    exact SeqAt.RcNeAt.lists_lengths l1.isList l2.isList h1 (by omega) _ _ _ _ ⟨.bl true, H, I, rfl, q⟩
/-! ### evaluation of tests over data -/
section
open Evl
variable {K : PySem.W.Frag} {σ : L2.St} {H : Hp} {ta tb tc : TE} {x y z v : V} {d : PyData}
theorem rc_isi {c : String} {b : Bool} (h : Dp K H v d) (k : kitB (tyN d) c = some b) : RC (rIsi K) [v, .ty c] H (.bl b) := fun H1 e _ q => isi (dp_same e _ _ h) k (q H1 (Ex.refl H1))
theorem ev_isi {c : String} {b : Bool} (ha : Ev ta σ H v) (h : Dp K H v d) (k : kitB (tyN d) c = some b) : Ev (tCB (rIsi K) (tCons ta (tCons (tC (.ty c)) tNil))) σ H (.bl b) := ev_cb (ea_cons ha (ea_cons ev_c ea_nil)) (rc_isi h k)
theorem ev_int (ha : Ev ta σ H v) (h : Dp K H v d) : Ev (tCB (rIsi K) (tCons ta (tCons (tC (.ty "int")) tNil))) σ H (.bl (isInt d)) := ev_isi ha h (kit_int (dp_nodict h))
theorem ev_bool (ha : Ev ta σ H v) (h : Dp K H v d) : Ev (tCB (rIsi K) (tCons ta (tCons (tC (.ty "bool")) tNil))) σ H (.bl (isBool d)) := ev_isi ha h (kit_bool (dp_nodict h))
theorem ev_tuple (ha : Ev ta σ H v) (h : Dp K H v d) : Ev (tCB (rIsi K) (tCons ta (tCons (tC (.ty "tuple")) tNil))) σ H (.bl (isTup d)) := ev_isi ha h (kit_tuple (dp_nodict h))
theorem ev_str (ha : Ev ta σ H v) (h : Dp K H v d) : Ev (tCB (rIsi K) (tCons ta (tCons (tC (.ty "str")) tNil))) σ H (.bl (isStr d)) := ev_isi ha h (kit_str (dp_nodict h))
theorem ev_chain {p p' : Int → Int → Bool} {i j k : Int} (ha : Ev ta σ H (.int i)) (hb : Ev tb σ H (.int j)) (hc : Ev tc σ H (.int k)) :
    Ev (tChain (rI0 fun i j => .bl (p i j)) (rI0 fun i j => .bl (p' i j)) ta tb tc) σ H (.bl (p i j && p' j k)) := fun H1 e Q q =>
  ha H1 e _ fun H2 e2 => hb H2 (e.trans e2) _ fun H3 e3 => ⟨i, j, rfl, rfl, p i j, rfl, by
    cases h : p i j with
    | true => exact hc H3 ((e.trans e2).trans e3) _ fun H4 e4 => ⟨j, k, rfl, rfl, by
        rw [h] at q
        exact q H4 ((e2.trans e3).trans e4)⟩
    | false =>
      rw [h] at q
      exact q H3 (e2.trans e3)⟩
/-- a def that answers a truth of data -/
def spTold (K : PySem.W.Frag) (f : PyData → Bool) : Sp := fun vs H Q _ => ∃ (v : V) (d : PyData), vs = [v] ∧ Dp K H v d ∧ ∀ H', Ex H H' → Q (.bl (f d)) H'
theorem spv_told {f : PyData → Bool} (h : Dp K H v d) : SpV (spTold K f) [v] H (.bl (f d)) := fun H1 e Q q E => ⟨v, d, rfl, dp_same e _ _ h, fun H' e' => q H' e'⟩
theorem ev_told {f : PyData → Bool} {E : XK} (ha : Ev ta σ H v) (h : Dp K H v d) : Ev (tCall (spTold K f) [] E (tCons ta tNil)) σ H (.bl (f d)) := ev_call (ea_cons ha ea_nil) (spv_told h)
theorem ev_ixT {p : Addr} {xs : List V} {j : Nat} (ha : Ev ta σ H (.ref p)) (h : SqT K H p xs) (hj : xs[j]? = some v) : Ev (tOp (rIxT K) ta (tC (.int (j : Int)))) σ H v := ev_op ha ev_c (rv_ixT h (atI_nat hj))
theorem ev_lenT {p : Addr} {xs : List V} (ha : Ev ta σ H (.ref p)) (h : SqT K H p xs) : Ev (tCB (rLenS K) (tCons ta tNil)) σ H (.int (xs.length : Int)) := fun H1 e Q q =>
  ha H1 e _ fun H2 e2 => ⟨p, xs, rfl, Or.inr (ex_t (e.trans e2) h), q H2 e2⟩
theorem ev_ix0 {p : Addr} {xs : List V} (ha : Ev ta σ H (.ref p)) (h : SqT K H p (v :: xs)) : Ev (tOp (rIxT K) ta (tC (.int 0))) σ H v := ev_ixT (j := 0) ha h rfl
theorem ev_ix1 {p : Addr} {xs : List V} (ha : Ev ta σ H (.ref p)) (h : SqT K H p (x :: v :: xs)) : Ev (tOp (rIxT K) ta (tC (.int 1))) σ H v := ev_ixT (j := 1) ha h rfl
theorem two_of {α : Type} {l : List α} (h : l.length = 2) : ∃ x y, l = [x, y] := match l, h with | [x, y], _ => ⟨x, y, rfl⟩
theorem ev_glob {i : Int} (q : True) : Ev (tC (.int i)) σ H (.int i) := ev_c
end
end Tc
/-! sets of ints out of a list, and their sorted list, of any length -/
namespace Tc
open PySem L2 PyProof.Rows
section
variable {P : Program} {w : World} {A : Around} {E : Value → Shared → Prop} {s : Shared}
/-- the empty set as the model lays it -/
abbrev noneSet (w : World) : Obj := { cls := .type "set", dict := none, data := .set #[] 0 (.fresh 0 0 (!w.params.followText "set-order")) }
abbrev withSet (w : World) (s : Shared) : Shared := { s with heap := s.heap.push (noneSet w) }
/-- what is known behind set(..) of ints -/
def Made (w : World) (s : Shared) (ns : List Int) (s₂ : Shared) : Prop := ∃ (h' : Heap) (tk c : Nat), s₂ = { s with heap := h', toks := tk } ∧ SetR w h' s.heap.objs.size (fun j => decide (j ∈ ns)) c ∧ c ≤ ns.length ∧ ∀ b o, s.heap.get? b = some o → h'.get? b = some o
set_option maxHeartbeats 8000000 in
theorem call_set_ints {l : Addr} {items : Array Value} {ns : List Int} {Q : Value → Shared → Prop} (hh : A.handled = none) (hl : s.heap.IsList l items) (hit : IntsAre items.toList ns) (hb : ns.length + 1 < scanBound)
    (h : ∀ s₂, Made w s ns s₂ → Q (.ref s.heap.objs.size) s₂) : wpAny (model P w) A (call (.type "set") [.ref l]) Q E s := by
  have hisz : items.size = ns.length := by rw [← Array.length_toList]; exact IntsAre.length hit
  obtain ⟨⟨ocls, odict, odata, oslots⟩, hol, hcl, nl, hdl⟩ := hl
  simp only at hcl hdl
  subst hcl; subst hdl
  have lS : l < s.heap.objs.size := Heap.lt_size hol
  have hS : (withSet w s).heap.get? s.heap.objs.size = some (noneSet w) := Heap.get?_push_size _ rfl
  have hT : (withSet w s).TypeIs (.ref s.heap.objs.size) "set" := ⟨_, hS, rfl⟩
  have hol' := Heap.get?_push_of_some (noneSet w) hol
  have hl1 : (withSet w s).heap.IsList l items := ⟨_, hol', rfl, nl, rfl⟩
  obtain ⟨c0, tl0, p1⟩ := F.called_set.mro
  have p2 := F.called_set.made
  have p3 := F.called_set.sub
  have p4 := F.called_set.notType
  have p5 := F.called_set.canCreate
  have p6 := F.typeCall_set_1 (.ref l)
  have p7 := F.called_set.init.lookup
  have p8 := F.called_set.init.bind (.ref s.heap.objs.size)
  refine wpAny_call (codeAny_of_tree (show wpAny _ _ (callAny (.type "set") _) _ _ _ from wpAny_pure ⟨Code.quiet_builtin _ (by decide +kernel), codeAny_builtin F.entry_type_call ?_⟩))
  rw [Around.under_plain (weight_type_call_type "set" [.ref l] []) rfl]
  repeat (any_goals (first | assumption | wp_step))
  refine codeAny_mono (code_set_led1 (.ref l) (E := E) (Q₁ := fun obj s₁ => obj = .ref s.heap.objs.size ∧ s₁ = withSet w s) ⟨rfl, rfl⟩) fun r s₁ hr => ?_
  rcases r with e | fl
  · exact hr
  cases fl with
  | ret obj =>
    obtain ⟨rfl, rfl⟩ := hr
    repeat (any_goals (first | assumption | wp_step))
    refine codeAny_mono (codeAny_call_builtin (R := wants (fun r s₂ => r = .none ∧ Made w s ns s₂) E) F.called_set.init.plain F.entry_set_init (check_set_init_1 hT ?_)) fun r₂ s₂ hr₂ => ?_
    · have q1 := F.sub_list_set
      have q2 := F.sub_list_frozenset
      have q3 : (Value.type "list" == Value.type "dict") = false := by decide
      unfold Builtin.«set.__init__» noKeywords Builtin.Frozenset.updateFrom
      generalize hPI : pyIter = PI
      wp_walk
      subst hPI
      refine wpAny_pyIter_list hl1 (wpAny_bind (wpAny_runValue ?_))
      have z1 : (withSet w s).heap.objs.size = s.heap.objs.size + 1 := Heap.size_push ..
      have n1 : l ≠ (withSet w s).heap.objs.size := by
        rw [z1]
        exact Nat.ne_of_lt (Nat.lt_succ_of_lt lS)
      have n2 : s.heap.objs.size ∉ [(withSet w s).heap.objs.size, l] := by
        rw [z1]
        intro m
        simp only [List.mem_cons, List.not_mem_nil, or_false] at m
        rcases m with m | m
        · exact absurd m (Nat.ne_of_lt (Nat.lt_succ_self _))
        · exact absurd m (Nat.ne_of_gt lS)
      have each : ∀ (i : Nat) (v : Value), items[i]? = some v → ∃ (k : Int) (tok : Tok), ns[i]? = some k ∧ v = .int k tok := fun i v at_ => by
        have lt : i < ns.length := hisz ▸ (Array.getElem?_eq_some_iff.mp at_).1
        obtain ⟨tok, rfl⟩ := IntsAre.int_at hit i v (Array.getElem?_toList ▸ at_)
        exact ⟨ns[i], tok, List.getElem?_eq_getElem lt, by simp [lt]⟩
      refine set_update_ints ((Walks.list (by simp [hh]) _ l n1 items).toS) s.heap.objs.size n2 ns hisz hb each (items.size - 0) 0 _ (by omega) (Nat.zero_le _)
        ⟨⟨_, Heap.get?_push_size _ rfl, rfl, rfl⟩, hl1.push _⟩ ⟨0, Nat.le_refl 0, setR_new_at (Heap.get?_push_of_some _ hS)⟩ fun s' c' hm hc' hS' => ?_
      obtain ⟨h', gen', drw', tk', os1⟩ := s'
      cases (show gen' = s.gens from hm.gens)
      cases (show drw' = s.drawn from hm.drawn)
      cases (show os1 = s.os from hm.os)
      refine wpAny_pure (show wpAny _ _ (ret Value.none) _ _ _ from wpAny_pure ⟨rfl, h', tk', c', rfl, hS', by omega, fun b o e => ?_⟩)
      have b0 : b < s.heap.objs.size := Heap.lt_size e
      refine hm.heap b o (fun m => ?_) (Heap.get?_push_of_some _ (Heap.get?_push_of_some _ e))
      simp only [List.mem_cons, List.not_mem_nil, or_false] at m
      rcases m with m | m
      · exact absurd m (Nat.ne_of_lt b0)
      · exact absurd (m.trans z1) (Nat.ne_of_lt (Nat.lt_succ_of_lt b0))
    · rcases r₂ with e | f2
      · exact hr₂
      cases f2 with
      | ret r =>
        obtain ⟨rfl, m⟩ := hr₂
        repeat (any_goals (first | assumption | wp_step))
        exact h _ m
      | _ => exact hr₂.elim
  | _ => exact hr.elim
end
/-! ### the rules -/
section
variable {X : Cx}
/-- set(xs), xs a list of ints -/
def rSetL (K : PySem.W.Frag) (w : World) : List V → Hp → VK → Prop := fun xs H Q => ∃ (l : Addr) (ns : List Int), xs = [V.ref l] ∧ SqL K H l (ns.map V.int) ∧ ns.length ≤ 4000 ∧
  ∀ (p : Addr) (c : Nat), H p = none → c ≤ ns.length → Q (.ref p) (upd H p (SetO w p (fun j => decide (j ∈ ns)) c))
theorem cr_setL (hc : X.calm = true) : CallR X (.type "set") (rSetL X.K X.w) := by
  intro pins s σ H vs us Q I r ⟨l, ns, e0, hs, hz, q⟩
  subst e0
  rw [Vals.ref1 r]
  have ⟨its, rv, hl, _⟩ := I.list hs
  refine call_set_ints (ns := ns) (I.ok.hd hc) hl.isList rv.ints (by unfold scanBound; omega) fun s₂ m => ?_
  obtain ⟨h', tk, c, rfl, R, hc', k⟩ := m
  exact ⟨.ref _, upd H s.heap.objs.size (SetO X.w s.heap.objs.size (fun j => decide (j ∈ ns)) c), I.laid (t' := tk) k (Nat.le_refl _) (setO_new R), rfl, q _ c (I.hok.fresh (Nat.le_refl _)) hc'⟩
end
end Tc
/-! the sorted list of a set of ints, of any length -/
namespace Tc
open PySem L2 PyProof.Rows
section
variable {P : Program} {w : World} {A : Around} {E : Value → Shared → Prop} {s : Shared} {a : Addr}
set_option maxHeartbeats 9000000 in
/-- sorted(a set of ints): the road of the library's rule for fewer than 64 of them, with its sort of ints of any number -/
theorem sorted_any {S : Int → Bool} {n : Nat} {Q : Value → Shared → Prop} (R : SetR w s.heap a S n) (free : A.handled = none)
    (fin : ∀ s' p (out : List Value) (c : Nat) (ns : List Int), (∀ b o, s.heap.get? b = some o → s'.heap.get? b = some o) → s'.gens = s.gens → s'.os = s.os → s.heap.objs.size ≤ p →
      s'.heap.get? p = some (seqObj "list" out.toArray c) → IntsAre out ns → ns.Pairwise (· < ·) → (∀ k, k ∈ ns ↔ S k = true) → ns.length = n → ns.length ≤ sizeLine → Q (.ref p) s') : wpAny (model P w) A (call (.builtin "sorted") [.ref a]) Q E s := by
  obtain ⟨ob, ents, _, _, at1, exact1, dat, isI, once, mem, room, fits, count, ring, laid⟩ := R
  have many : ∀ {l : List Value}, l.Perm (ents.toList.map (·.2)) → l.length = n := fun pm => (pm.length_eq.trans (by simp)).trans count
  have size : n ≤ sizeLine := count ▸ fits_of_scanBound room
  refine Calls.call_function_entry kind_sorted plain_sorted entry_sorted (args_sorted1 _) (show wpAny _ _ (Builtin.«sorted» _) _ _ _ from ?_)
  refine wpAny_bind (m := checkCount "sorted" 1 1 _) (wpAny_pure (wpAny_bind (collect_set (A := A.in1) free ⟨ob, at1, exact1.1, dat⟩ fits room ring laid fun t vs keep old gens os pm => ?_)))
  /- the items, as ints -/
  have are : IntsAre vs (vs.map Builtin.Re.reRawOf) := ints_of vs fun v m => by
    have ⟨x, mx, ex⟩ := List.mem_map.mp (pm.mem_iff.mp m)
    have ⟨i, tok, hx, _⟩ := isI x mx
    exact ⟨i, tok, ex ▸ hx⟩
  have these : (vs.map Builtin.Re.reRawOf).Perm (ents.toList.map keyOf) := (pm.map Builtin.Re.reRawOf).trans (by rw [List.map_map]; exact .refl _)
  refine wpAny_bind (wpAny_newList ?_ ((many pm).symm ▸ size))
  generalize hL : t.heap.push (seqObj "list" vs.toArray 0) = L
  have new : L.get? t.heap.objs.size = some (seqObj "list" vs.toArray 0) := hL ▸ Heap.get?_push_size _ rfl
  refine wpAny_bind (wpAny_holding (wpAny_call_entry slot_list_sort ⟨_, new, rfl⟩ entry_list_sort (SrtO.list_sort_ord SrtO.swo_int new ((many pm).symm ▸ size) (fun lt => SrtO.ints_sortable are lt) fun out o1 o2 => ⟨_, rfl, ?_⟩) (args_list_sort _)))
  obtain ⟨r1, r2, r3⟩ := SrtO.ints_out are o1 o2
  have ⟨c, hc⟩ := sortedHeap_at (vs := vs) (out := out.toArray) new
  have all := r2.trans these
  have len := all.length_eq.trans ((List.length_map _).trans (Array.length_toList.trans count))
  refine wpAny_pure ⟨_, rfl, fin _ t.heap.objs.size out c _ (fun b u e => ?_) gens os old hc r1 (L2.lt_of_le_nodup _ r3 (all.nodup_iff.mpr once)) (fun k => all.mem_iff.trans (mem k).symm) len (len.symm ▸ size)⟩
  have lt := Heap.lt_size (keep b u e)
  show (sortedHeap L t.heap.objs.size vs out.toArray).get? b = some u
  rw [sortedHeap_old (Nat.ne_of_lt lt) (hL ▸ size_push' t.heap _ ▸ Nat.lt_succ_of_lt lt), ← hL]
  exact Heap.get?_push_of_some _ (keep b u e)
end
section
variable {X : Cx}
/-- sorted(s), s a set of ints: a new list, rising, of just its members -/
def rSortedSetA (w : World) : List V → Hp → VK → Prop := fun vs H Q => ∃ (a : Addr) (S : Int → Bool) (n : Nat), vs = [V.ref a] ∧ H a = some (SetO w a S n) ∧ ∀ (ms : List Int) (p : Addr), ms.Pairwise (· < ·) → (∀ k : Int, k ∈ ms ↔ S k = true) → ms.length = n → H p = none → Q (.ref p) (upd H p (.lst (ms.map V.int)))
theorem cr_sortedSetA (hc : X.calm = true) : CallR X (.builtin "sorted") (rSortedSetA X.w) := by
  intro pins s0 σ H vs us Q I r hyp
  obtain ⟨a, S, n, rfl, ha, q⟩ := hyp
  rw [Vals.ref1 r]
  refine sorted_any (setO_get I ha) (I.ok.hd hc) fun t p out c ms keep gens os far at2 are rise mem cnt size => ?_
  have none0 := I.hok.fresh far
  have ok : ObjOk X.prog X.w (upd H p (.lst (ms.map V.int))) t.heap p (.lst (ms.map V.int)) := ⟨(List.length_map (f := V.int)).symm ▸ size, out, c, vals_of_ints are, at2⟩
  have inv := I.call (g' := t.gens) (d' := t.drawn) (t' := t.toks) (ch := []) (Un.laid keep far none0) (I.hok.laid keep far ok) (gens ▸ I.bare) (fun _ z => nomatch z)
  have same : t = { s0 with heap := t.heap, gens := t.gens, drawn := t.drawn, toks := t.toks } := by
    obtain ⟨t1, t2, t3, t4, t5⟩ := t
    cases os
    rfl
  exact same ▸ ⟨.ref p, _, inv, rfl, q ms p rise mem cnt none0⟩
end
end Tc
namespace Tc
open PySem L2 Evl
section
variable {K : PySem.W.Frag} {σ : L2.St} {H : Hp} {ta tb tc te : TE} {x y z v : V} {d : PyData}
theorem s_next {D : Ends} {σ : L2.St} {H : Hp} (h : D.nx σ H) : tNext D σ H := h
theorem s_seq {D : Ends} {σ : L2.St} {H : Hp} {t u : TS} (h : t { D with nx := u D } σ H) : tSeq t u D σ H := h
theorem ev_l0 {p : Addr} {xs : List V} (ha : Ev ta σ H (.ref p)) (h : SqL K H p (v :: xs)) : Ev (tOp (rIxL K) ta (tC (.int 0))) σ H v := ev_op ha ev_c (rv_ixL h (atI_nat (j := 0) rfl))
theorem ev_l1 {p : Addr} {xs : List V} (ha : Ev ta σ H (.ref p)) (h : SqL K H p (x :: v :: xs)) : Ev (tOp (rIxL K) ta (tC (.int 1))) σ H v := ev_op ha ev_c (rv_ixL h (atI_nat (j := 1) rfl))
theorem ex_hid {b : Addr} {H H1 : Hp} (e : Ex H H1) : Same (hid b H) (hid b H1) := fun a u h => by
  have n : a ≠ b := fun z => by
    rw [z, hid_self] at h
    cases h
  exact hid_at (e a u (hid_same b H a u h)) n
theorem Fr.ex {b : Addr} {H H1 : Hp} (h : Bag H b) (e : Ex H H1) : Fr b H H1 := by
  obtain ⟨x, y, hb, r⟩ := h
  exact ⟨⟨x, y, e b _ hb, r⟩, ex_hid e⟩
theorem Fr.put {b : Addr} {H H1 : Hp} {x y : Int} (e : Ex H H1) (hx : 0 ≤ x) (hy : 0 ≤ y) (hz : y < 2147483648) : Fr b H (upd H1 b (.lst [.int x, .int y])) := by
  refine ⟨⟨x, y, upd_same, hx, hy, hz⟩, ?_⟩
  rw [hid_upd]
  exact ex_hid e
theorem rv_mod {i j : Int} (h : 0 < j) : RV (rI (fun _ j => 0 < j) fun i j => .int (i % j)) (.int i) (.int j) H (.int (i % j)) := fun H1 _ _ q => ⟨i, j, rfl, rfl, h, q H1 (Ex.refl H1)⟩
theorem rv_fdiv {i j : Int} (h : 0 < j) (h2 : j < 1073741824) : RV (rI CDiv fun i j => .int (i / j)) (.int i) (.int j) H (.int (i / j)) := fun H1 _ _ q => ⟨i, j, rfl, rfl, ⟨h, h2⟩, q H1 (Ex.refl H1)⟩
theorem rv_mul {i j : Int} (h : CMul i j) : RV (rI CMul fun i j => .int (i * j)) (.int i) (.int j) H (.int (i * j)) := fun H1 _ _ q => ⟨i, j, rfl, rfl, h, q H1 (Ex.refl H1)⟩
theorem rv_pow {i j : Int} (h : CPow i j) : RV (rI CPow fun i j => .int (i ^ j.toNat)) (.int i) (.int j) H (.int (i ^ j.toNat)) := fun H1 _ _ q => ⟨i, j, rfl, rfl, h, q H1 (Ex.refl H1)⟩
theorem rv_add {i j : Int} : RV (rI0 fun i j => .int (i + j)) (.int i) (.int j) H (.int (i + j)) := rv_I0
theorem rv_sub {i j : Int} : RV (rI0 fun i j => .int (i - j)) (.int i) (.int j) H (.int (i - j)) := rv_I0
theorem ev_abs {i : Int} (ha : Ev ta σ H (.int i)) : Ev (tCB (fun xs H Q => ∃ i, xs = [.int i] ∧ Q (.int (if i < 0 then -i else i)) H) (tCons ta tNil)) σ H (.int (if i < 0 then -i else i)) :=
  ev_cb (ea_cons ha ea_nil) fun H1 _ _ q => ⟨i, rfl, q H1 (Ex.refl H1)⟩
theorem ev_lx {p : Addr} {xs : List V} {j : Nat} (ha : Ev ta σ H (.ref p)) (hb : Ev tb σ H (.int (j : Int))) (h : SqL K H p xs) (hj : xs[j]? = some v) : Ev (tOp (rIxL K) ta tb) σ H v := ev_op ha hb (rv_ixL h (atI_nat hj))
/-- a new bag -/
def spBag (K : PySem.W.Frag) : Sp := fun vs H Q _ => ∃ (a : Addr) (ns : List Int) (k : Nat), vs = [.ref a, .int (k : Int)] ∧ SqL K H a (ns.map V.int) ∧ k ≤ 1000 ∧ ∀ b H', H b = none → Ex H H' → Bag H' b → Q (.ref b) H'
/-- a draw below m -/
def spTake : Sp := fun vs H Q _ => ∃ (b : Addr) (m : Int), vs = [.ref b, .int m] ∧ Bag H b ∧ 0 < m ∧ m < 1073741824 ∧ ∀ r H', Fr b H H' → 0 ≤ r → r < m → Q (.int r) H'
end
end Tc
namespace Tc
open PySem L2 Evl
section
variable {K : PySem.W.Frag} {σ : L2.St} {H : Hp} {ta tb tc te : TE} {t : TT} {x y z v : V} {d : PyData}
/-- a list comprehension over a tuple, changing nothing -/
theorem el_lcT {a : Addr} {xs : List V} {tl : TE} {j : Nat} {vs : List Nat} (f : Nat → Bool) (u : Nat → V) (h : Ev tl σ H (.ref a)) (hx : SqT K H a xs) (hz : xs.length ≤ 40000) (hw : ∀ x, wipe ((wipe σ vs).set j (some x)) vs = wipe σ vs)
    (ht : ∀ (i : Nat) (x : V) H1, Ex H H1 → xs[i]? = some x → EvT t ((wipe σ vs).set j (some x)) H1 (f i)) (he : ∀ (i : Nat) (x : V) H1, Ex H H1 → xs[i]? = some x → f i = true → Ev te ((wipe σ vs).set j (some x)) H1 (u i)) :
    EvL (tLc (iTup K tl) (gName j) t te vs) σ H (given xs.length f u) := fun H0 e Q q => h H0 e _ fun H1 e1 => ⟨a, rfl, ⟨xs, ex_t (e.trans e1) hx⟩, fun Dl hD =>
  lc_tup (xs := xs) (Cw H1 f u Dl) ⟨hD, Ex.new hD, upd_same⟩ (fun i H' _ p => ex_t ((e.trans e1).trans p.2.1) hx) (fun i x H' hi p => ⟨hw x, cw_turn p (by have := (List.getElem?_eq_some_iff.mp hi).1; omega) (ht i x H1 (e.trans e1) hi) (fun hf => he i x H1 (e.trans e1) hi hf)⟩)
    (fun H' ⟨n0, x0, d0⟩ => q Dl H' (fresh_back e1 n0) (e1.trans x0) d0)⟩
theorem et_yes : EvT tYes σ H true := fun H1 _ _ q => q H1 (Ex.refl H1)
theorem given_all (n : Nat) (u : Nat → V) : given n (fun _ => true) u = (List.range n).map u := by
  unfold given
  rw [List.filter_eq_self.mpr fun _ _ => rfl]
theorem given_empty (n : Nat) (f : Nat → Bool) (u : Nat → V) : (given n f u).isEmpty = true ↔ ∀ i, i < n → f i = false := by
  unfold given
  rw [List.isEmpty_iff, List.map_eq_nil_iff, List.filter_eq_nil_iff]
  constructor
  · intro h i hi
    cases e : f i with
    | true => exact absurd e (h i (List.mem_range.mpr hi))
    | false => rfl
  · intro h i hi
    rw [h i (List.mem_range.mp hi)]
    exact Bool.false_ne_true
/-- two rising lists of the same members are one -/
theorem rising_one : ∀ (a b : List Int), a.Pairwise (· < ·) → b.Pairwise (· < ·) → (∀ k, k ∈ a ↔ k ∈ b) → a = b
  | [], [], _, _, _ => rfl
  | [], y :: b, _, _, h => absurd ((h y).mpr List.mem_cons_self) (by simp)
  | x :: a, [], _, _, h => absurd ((h x).mp List.mem_cons_self) (by simp)
  | x :: a, y :: b, ha, hb, h => by
    obtain ⟨a1, a2⟩ := List.pairwise_cons.mp ha
    obtain ⟨b1, b2⟩ := List.pairwise_cons.mp hb
    have e : x = y := by
      rcases List.mem_cons.mp ((h x).mp List.mem_cons_self) with e | m
      · exact e
      · rcases List.mem_cons.mp ((h y).mpr List.mem_cons_self) with e | m2
        · exact e.symm
        · have p1 := b1 x m
          have p2 := a1 y m2
          omega
    subst e
    refine congrArg (x :: ·) (rising_one a b a2 b2 fun k => ⟨fun m => ?_, fun m => ?_⟩)
    · rcases List.mem_cons.mp ((h k).mp (List.mem_cons_of_mem _ m)) with e | m2
      · have := a1 k m
        omega
      · exact m2
    · rcases List.mem_cons.mp ((h k).mpr (List.mem_cons_of_mem _ m)) with e | m2
      · have := b1 k m
        omega
      · exact m2
/-- sorted(set(xs)) of ints -/
theorem el_sortset {w : World} {ns ms : List Int} (ha : EvL ta σ H (ns.map V.int)) (hl : ns.length ≤ 4000) (hm : ∀ l : List Int, l.Pairwise (· < ·) → (∀ k, k ∈ l ↔ k ∈ ns) → l = ms) :
    EvL (tCB (rSortedSetA w) (tCons (tCB (rSetL K w) (tCons ta tNil)) tNil)) σ H (ms.map V.int) := fun H1 e Q q =>
  ha H1 e _ fun p H2 hp e2 h2 => ⟨p, ns, rfl, sq_of h2, hl, fun s c hs hc => ⟨s, _, c, rfl, upd_same, fun l r hp1 hm1 hn hr => by
    have e3 := hm l hp1 fun k => by rw [hm1 k, decide_eq_true_eq]
    subst e3
    exact q r _ (fresh_back (e2.trans (Ex.new hs)) hr) ((e2.trans (Ex.new hs)).trans (Ex.new hr)) upd_same⟩⟩
theorem el_sortsetV {w : World} {a : Addr} {ns ms : List Int} (ha : Ev ta σ H (.ref a)) (hs : SqL K H a (ns.map V.int)) (hl : ns.length ≤ 4000) (hm : ∀ l : List Int, l.Pairwise (· < ·) → (∀ k, k ∈ l ↔ k ∈ ns) → l = ms) :
    EvL (tCB (rSortedSetA w) (tCons (tCB (rSetL K w) (tCons ta tNil)) tNil)) σ H (ms.map V.int) := fun H1 e Q q =>
  ha H1 e _ fun H2 e2 => ⟨a, ns, rfl, ex_l (e.trans e2) hs, hl, fun s c hs hc => ⟨s, _, c, rfl, upd_same, fun l r hp1 hm1 hn hr => by
    have e3 := hm l hp1 fun k => by rw [hm1 k, decide_eq_true_eq]
    subst e3
    exact q r _ (fresh_back (e2.trans (Ex.new hs)) hr) ((e2.trans (Ex.new hs)).trans (Ex.new hr)) upd_same⟩⟩
theorem dps_ints {ns : List Int} : DpAll K H (ns.map V.int) (ns.map PyData.int) := by
  induction ns with
  | nil => exact .nil
  | cons n ns ih => exact .cons (.int n) ih
theorem eqv_ints : ∀ a b : List Int, PyData.eqvAll (a.map PyData.int) (b.map PyData.int) = decide (a = b)
  | [], [] => rfl
  | [], y :: b => by simp [PyData.eqvAll]
  | x :: a, [] => by simp [PyData.eqvAll]
  | x :: a, y :: b => by
    rw [List.map_cons, List.map_cons, PyData.eqvAll, eqv_ints a b]
    simp [PyData.eqv]
    rfl
theorem shaped_ints (a : List Int) : SeqAt.shaped (.list (a.map PyData.int)) = true := by
  have h : ∀ a : List Int, PyData.canLayAll0 (a.map PyData.int) = true ∧ PyData.depthAll (a.map PyData.int) = 0 := by
    intro a
    induction a with
    | nil => exact ⟨rfl, rfl⟩
    | cons n a ih => exact ⟨by rw [List.map_cons, PyData.canLayAll0, ih.1]; rfl, by rw [List.map_cons, PyData.depthAll, ih.2]; rfl⟩
  unfold SeqAt.shaped
  rw [PyData.canLay0, (h a).1, PyData.depth, (h a).2]
  rfl
end
end Tc
/-! data made beside a bag of draws -/
namespace Tc
open PySem L2 Evl
/-- sizes of data: c counts how often it was changed, n how deep it is -/
def gd (c : Nat) : Nat → PyData → Bool
  | _, .none => true
  | _, .bool _ => true
  | _, .int i => decide (i.natAbs ≤ 10 ^ 31 + 1000 * c)
  | _, .str z => decide (z.length ≤ 100 * 3 ^ c)
  | n + 1, .list ds => decide (ds.length ≤ 1100 + c) && ds.all (gd c n)
  | n + 1, .tuple ds => decide (ds.length ≤ 1100 + c) && ds.all (gd c n)
  | _, _ => false
theorem gd_n {c : Nat} : ∀ (n : Nat) (d : PyData), gd c n d = true → gd c (n + 1) d = true
  | _, .none, _ => rfl
  | _, .bool _, _ => rfl
  | 0, .int i, h => h
  | n + 1, .int i, h => h
  | 0, .str i, h => h
  | n + 1, .str i, h => h
  | 0, .list ds, h => by cases h
  | 0, .tuple ds, h => by cases h
  | 0, .dict ds, h => by cases h
  | n + 1, .dict ds, h => by cases h
  | n + 1, .list ds, h => by
    rw [gd, Bool.and_eq_true, List.all_eq_true] at h ⊢
    exact ⟨h.1, fun d m => gd_n n d (h.2 d m)⟩
  | n + 1, .tuple ds, h => by
    rw [gd, Bool.and_eq_true, List.all_eq_true] at h ⊢
    exact ⟨h.1, fun d m => gd_n n d (h.2 d m)⟩
theorem gd_c {c : Nat} : ∀ (n : Nat) (d : PyData), gd c n d = true → gd (c + 1) n d = true
  | _, .none, _ => by rw [gd]
  | _, .bool _, _ => by rw [gd]
  | 0, .int i, h => decide_eq_true (by have := of_decide_eq_true (p := i.natAbs ≤ 10 ^ 31 + 1000 * c) h; omega)
  | n + 1, .int i, h => decide_eq_true (by have := of_decide_eq_true (p := i.natAbs ≤ 10 ^ 31 + 1000 * c) h; omega)
  | 0, .str z, h => decide_eq_true (by have := of_decide_eq_true (p := z.length ≤ 100 * 3 ^ c) h; rw [Nat.pow_succ]; omega)
  | n + 1, .str z, h => decide_eq_true (by have := of_decide_eq_true (p := z.length ≤ 100 * 3 ^ c) h; rw [Nat.pow_succ]; omega)
  | 0, .list ds, h => by cases h
  | 0, .tuple ds, h => by cases h
  | 0, .dict ds, h => by cases h
  | n + 1, .dict ds, h => by cases h
  | n + 1, .list ds, h => by
    rw [gd, Bool.and_eq_true, List.all_eq_true, decide_eq_true_eq] at h ⊢
    exact ⟨by omega, fun d m => gd_c n d (h.2 d m)⟩
  | n + 1, .tuple ds, h => by
    rw [gd, Bool.and_eq_true, List.all_eq_true, decide_eq_true_eq] at h ⊢
    exact ⟨by omega, fun d m => gd_c n d (h.2 d m)⟩
theorem gd_le {c n m : Nat} {d : PyData} (h : gd c n d = true) (hm : n ≤ m) : gd c m d = true := by
  induction hm with
  | refl => exact h
  | step _ ih => exact gd_n _ _ ih
theorem gd_lc {c e n : Nat} {d : PyData} (h : gd c n d = true) (hm : c ≤ e) : gd e n d = true := by
  induction hm with
  | refl => exact h
  | step _ ih => exact gd_c _ _ ih
theorem gd_tup {c n : Nat} {ds : List PyData} : gd c (n + 1) (.tuple ds) = true ↔ ds.length ≤ 1100 + c ∧ ∀ d ∈ ds, gd c n d = true := by
  rw [gd, Bool.and_eq_true, List.all_eq_true, decide_eq_true_eq]
theorem gd_lst {c n : Nat} {ds : List PyData} : gd c (n + 1) (.list ds) = true ↔ ds.length ≤ 1100 + c ∧ ∀ d ∈ ds, gd c n d = true := by
  rw [gd, Bool.and_eq_true, List.all_eq_true, decide_eq_true_eq]
section
variable {b : Addr} {K : PySem.W.Frag} {σ : L2.St} {H : Hp} {ta tb tc te : TE} {t : TT} {x y z v : V} {d : PyData}
theorem dpt_new {p : Addr} {vs : List V} {ds : List PyData} (hb : Bag H b) (hp : H p = none) (h : DpAll K (hid b H) vs ds) : Dp K (hid b (upd H p (.tup vs))) (.ref p) (.tuple ds) :=
  .tup (st_of (hid_at upd_same (hb.ne hp))) (dps_same (Fr.new hb hp).sm _ _ h)
theorem fr_back {b p : Addr} {H H1 : Hp} (e : Fr b H H1) (hp : H1 p = none) : H p = none ∨ p = b := by
  by_cases h : p = b
  · exact .inr h
  · cases e1 : H p with
    | none => exact .inl rfl
    | some o =>
      rw [e.at e1 h] at hp
      cases hp
theorem fr_back' {b p : Addr} {H H1 : Hp} (e : Fr b H H1) (hp : H1 p = none) : H p = none := by
  rcases fr_back e hp with h | h
  · exact h
  · exact absurd h (e.bag.ne hp)
end
end Tc
namespace Tc
open PySem L2 Evl
section
variable {b : Addr} {K : PySem.W.Frag} {σ : L2.St} {H : Hp} {ta tb tc te : TE} {t : TT} {x y z v : V} {d : PyData} {Q : VK} {E : XK}
theorem take_of {ta : TA} {m : Int} (hB : Bag H b) (ha : EvA ta σ H [.ref b, .int m]) (h0 : 0 < m) (h1 : m < 1073741824) (q : ∀ r H', Fr b H H' → 0 ≤ r → r < m → Q (.int r) H') : tCall spTake [] E ta σ H Q :=
  ha H (Ex.refl H) _ fun H1 e => ⟨b, m, rfl, (Fr.ex hB e).bag, h0, h1, fun r H' fr => q r H' ((Fr.ex hB e).trans fr)⟩
theorem el_cat {xs ys : List V} (ha : EvL ta σ H xs) (hb : EvL tb σ H ys) (hl : xs.length + ys.length ≤ 100000) : EvL (tOp rCat ta tb) σ H (xs ++ ys) := fun H1 e Q q =>
  ha H1 e _ fun p H2 hp e2 h2 => hb H2 (e.trans e2) _ fun r H3 hr e3 h3 => ⟨p, r, xs, ys, rfl, rfl, e3 p _ h2, h3, sz_of hl, fun s hs => q s _ (fresh_back (e2.trans e3) hs) ((e2.trans e3).trans (Ex.new hs)) upd_same⟩
theorem el_is {xs ys : List V} (h : EvL te σ H xs) (e : xs = ys) : EvL te σ H ys := e ▸ h
/-- an item of a new list by a draw -/
theorem item_new {xs : List V} {tb : TE} (ha : EvL ta σ H xs) (hB : Bag H b) (h : ∀ H1, Fr b H H1 → ∀ Q : VK, (∀ r H', Fr b H1 H' → 0 ≤ r → r < (xs.length : Int) → Q (.int r) H') → tb σ H1 Q) (q : ∀ v H', Fr b H H' → v ∈ xs → Q v H') : tOp (rIxL K) ta tb σ H Q :=
  ha H (Ex.refl H) _ fun p H1 hp e h1 => h H1 (Fr.ex hB e) _ fun r H2 f2 h0 h3 => by
    obtain ⟨n, rfl⟩ : ∃ n : Nat, r = (n : Int) := ⟨r.toNat, by omega⟩
    have hlt : n < xs.length := by omega
    have hpb : p ≠ b := hB.ne hp
    exact ⟨p, xs, n, xs[n], rfl, rfl, sq_of (f2.at h1 hpb), atI_nat (List.getElem?_eq_getElem hlt), q _ _ ((Fr.ex hB e).trans f2) (List.getElem_mem hlt)⟩
/-- keys of a table -/
def spKeys : Sp := fun vs H Q _ => ∃ b : Addr, vs = [.ref b] ∧ Bag H b ∧ ∀ l (ks : List Int) H', Fr b H H' → H l = none → l ≠ b → H' l = some (.lst (ks.map V.int)) → (∀ k ∈ ks, 0 ≤ k ∧ k < 1000) → ks.length ≤ 1000 → Q (.ref l) H'
end
end Tc
namespace Tc
open PySem L2 Evl
theorem same_hid {D : Addr} {H H' : Hp} (e : Same H H') : Same (hid D H) (hid D H') := fun a u h => by
  have n : a ≠ D := fun z => by
    rw [z, hid_self] at h
    cases h
  exact hid_at (e a u (hid_same D H a u h)) n
theorem hid_upd2 {b D : Addr} (H : Hp) (o : HO) (n : D ≠ b) : hid D (hid b (upd H D o)) = hid D (hid b H) := by
  funext a
  unfold hid
  by_cases h : a = D
  · rw [if_pos h, if_pos h]
  · rw [if_neg h, if_neg h]
    by_cases h2 : a = b
    · rw [if_pos h2, if_pos h2]
    · rw [if_neg h2, if_neg h2, upd_ne h]
/-- a list at D that collects data, beside a bag at b -/
structure Col (b : Addr) (K : PySem.W.Frag) (g : PyData → Bool) (H : Hp) (D : Addr) (i : Nat) (H' : Hp) : Prop where
  fr : Fr b H H'
  new : H D = none
  ne : D ≠ b
  ex : ∃ (vs : List V) (ds : List PyData), H' D = some (.lst vs) ∧ DpAll K (hid D (hid b H')) vs ds ∧ vs.length ≤ i ∧ ∀ d ∈ ds, g d = true
section
variable {b D : Addr} {K : PySem.W.Frag} {g : PyData → Bool} {H H' H4 : Hp} {i : Nat} {y : V} {d : PyData}
theorem Col.start (hB : Bag H b) (hD : H D = none) : Col b K g H D 0 (upd H D (.lst [])) := ⟨Fr.new hB hD, hD, hB.ne hD, [], [], upd_same, .nil, Nat.le_refl _, fun d m => by simp at m⟩
theorem Col.skip (c : Col b K g H D i H') (f : Fr b H' H4) : Col b K g H D (i + 1) H4 := by
  obtain ⟨vs, ds, h1, h2, h3, h4⟩ := c.ex
  exact ⟨c.fr.trans f, c.new, c.ne, vs, ds, f.at h1 c.ne, dps_same (same_hid f.sm) _ _ h2, by omega, h4⟩
theorem Col.push (c : Col b K g H D i H') (f : Fr b H' H4) (hy : Dp K (hid D (hid b H4)) y d) (hg : g d = true) (hi : i < 10000) : ∃ acc, H4 D = some (.lst acc) ∧ acc.length < sizeLine ∧ Col b K g H D (i + 1) (upd H4 D (.lst (acc ++ [y]))) := by
  obtain ⟨vs, ds, h1, h2, h3, h4⟩ := c.ex
  refine ⟨vs, f.at h1 c.ne, sz_lt (by omega), Fr.mut (c.fr.trans f) c.new c.ne, c.new, c.ne, vs ++ [y], ds ++ [d], upd_same, ?_, by simp; omega, fun e m => ?_⟩
  · rw [hid_upd2 _ _ c.ne]
    exact dps_app (dps_same (same_hid f.sm) _ _ h2) (.cons hy .nil)
  · rcases List.mem_append.mp m with m | m
    · exact h4 e m
    · rw [List.mem_singleton.mp m]
      exact hg
/-- a pair of ints, new -/
theorem dp_pair {p : Addr} {k r : Int} (hB : Bag H b) (hD : H D ≠ none) (hp : H p = none) : Dp K (hid D (hid b (upd H p (.tup [.int k, .int r])))) (.ref p) (.tuple [.int k, .int r]) :=
  .tup (st_of (hid_at (hid_at upd_same (hB.ne hp)) fun z => hD (z ▸ hp))) (.cons (.int k) (.cons (.int r) .nil))
theorem Col.at (c : Col b K g H D i H') : H' D ≠ none := by
  obtain ⟨vs, ds, h1, _⟩ := c.ex
  rw [h1]
  exact fun z => nomatch z
/-- tuple(..) of what was collected -/
theorem Col.tup {te : TE} {σ : L2.St} {Q : VK} {i : Nat} (h : ∀ Q' : VK, (∀ p H', Col b K g H p i H' → Q' (.ref p) H') → te σ H Q') (hz : i ≤ 1100)
    (q : ∀ v d H', Fr b H H' → Dp K (hid b H') v d → (∃ ds : List PyData, d = .tuple ds ∧ ds.length ≤ i ∧ ∀ d ∈ ds, g d = true) → Q v H') :
    tCB (fun xs H Q => ∃ p ys, xs = [.ref p] ∧ ((SqL K H p ys ∧ ∀ l, H l = none → Q (.ref l) (upd H l (.tup ys))) ∨ (SqT K H p ys ∧ Q (.ref p) H))) (tCons te tNil) σ H Q :=
  h _ fun p H' c => by
    obtain ⟨vs, ds, h1, h2, h3, h4⟩ := c.ex
    refine ⟨p, vs, rfl, .inl ⟨sq_of h1, fun l hl => q (.ref l) (.tuple ds) _ (c.fr.trans (Fr.new c.fr.bag hl)) (dpt_new c.fr.bag hl (dps_same (hid_same p _) _ _ h2)) ⟨ds, rfl, by rw [← dps_len h2]; exact h3, h4⟩⟩⟩
/-- a table of drawn worths -/
def spTab (K : PySem.W.Frag) : Sp := fun vs H Q _ => ∃ (b l : Addr) (ks : List Int), vs = [.ref b, .ref l] ∧ Bag H b ∧ l ≠ b ∧ H l = some (.lst (ks.map V.int)) ∧ (∀ k ∈ ks, 0 ≤ k ∧ k < 1000) ∧ ks.length ≤ 1000 ∧ ∀ v d H', Fr b H H' → Dp K (hid b H') v d → gd 0 2 d = true → Q v H'
theorem gd_pair {k r : Int} (h0 : 0 ≤ k) (h1 : k < 100000) (h2 : 0 ≤ r) (h3 : r < 100000) : gd 0 1 (.tuple [.int k, .int r]) = true := by
  refine gd_tup.mpr ⟨by simp, fun d m => ?_⟩
  simp only [List.mem_cons, List.not_mem_nil, or_false] at m
  rcases m with rfl | rfl
  · exact decide_eq_true (by have : (100000 : Nat) ≤ 10 ^ 31 := by decide
                             omega)
  · exact decide_eq_true (by have : (100000 : Nat) ≤ 10 ^ 31 := by decide
                             omega)
end
end Tc
namespace Tc
open PySem L2 Evl
section
variable {X : Cx}
def rAddB : R2 := fun x y H Q => ∃ (k : Bool) (i : Int), x = .bl k ∧ y = .int i ∧ Q (.int ((if k = true then (1 : Int) else 0) + i)) H
def rSubB : R2 := fun x y H Q => ∃ (k : Bool) (i : Int), x = .bl k ∧ y = .int i ∧ Q (.int ((if k = true then (1 : Int) else 0) - i)) H
def rNegB : V → Hp → VK → Prop := fun x H Q => ∃ k : Bool, x = .bl k ∧ Q (.int (-(if k = true then (1 : Int) else 0))) H
def rStrB : List V → Hp → VK → Prop := fun xs H Q => ∃ k : Bool, xs = [.bl k] ∧ Q (.str (if k = true then "True" else "False")) H
theorem op_add_bi : OpR X (binaryOp .Add) rAddB := by
  intro pins s σ H x y v u Q I rx ry h
  obtain ⟨k, i, rfl, rfl, q⟩ := h
  cases (show v = Value.bool k from rx)
  obtain ⟨t, rfl⟩ := ry
  exact IntBool.add_bool_int ⟨.int _, H, I.tok _, ⟨_, rfl⟩, q⟩
theorem op_sub_bi : OpR X (binaryOp .Sub) rSubB := by
  intro pins s σ H x y v u Q I rx ry h
  obtain ⟨k, i, rfl, rfl, q⟩ := h
  cases (show v = Value.bool k from rx)
  obtain ⟨t, rfl⟩ := ry
  exact IntBool.sub_bool_int ⟨.int _, H, I.tok _, ⟨_, rfl⟩, q⟩
theorem gives_neg_b (k : Bool) : Gives (Builtin.«int.__neg__» ⟨[.bool k], []⟩) (.int (-(if k = true then (1 : Int) else 0))) := .of_eq (by cases k <;> rfl)
theorem un_neg_b : UnR X (unaryOp .USub) rNegB := by
  intro pins s σ H x v Q I rx h
  obtain ⟨k, rfl, q⟩ := h
  cases (show v = Value.bool k from rx)
  exact unaryOp_gives (op := .USub) (typeIs_bool s k) rfl F.slot_bool_neg F.entry_int_neg (F.args_int_neg_1 _) (gives_neg_b k) ⟨.int _, H, I.tok _, ⟨_, rfl⟩, q⟩
theorem call_str_b : CallR X (.type "str") rStrB := by
  intro pins s σ H xs us Q I r h
  obtain ⟨k, rfl, q⟩ := h
  obtain ⟨u, rfl, r1⟩ := vals1 r
  cases (show u = Value.bool k from r1)
  refine PySem.P.str_of_bool ?_
  cases k with
  | true => exact ⟨.str "True", H, I.tok _, ⟨_, rfl⟩, q⟩
  | false => exact ⟨.str "False", H, I.tok _, ⟨_, rfl⟩, q⟩
end
theorem gd_int {c n : Nat} {i : Int} : gd c n (.int i) = true ↔ i.natAbs ≤ 10 ^ 31 + 1000 * c := by
  cases n <;> (rw [gd, decide_eq_true_eq])
theorem gd_str {c n : Nat} {z : Str} : gd c n (.str z) = true ↔ z.length ≤ 100 * 3 ^ c := by
  cases n <;> (rw [gd, decide_eq_true_eq])
theorem text_len {i : Int} {c : Nat} (hc : c ≤ 1000) (h : i.natAbs ≤ 10 ^ 31 + 1000 * c) : (Str.ofString (toString i)).length ≤ 33 := by
  have e := int_text_length_le10 (a := i) (k := 32) (by decide) (by
    have : (10 : Nat) ^ 32 = 10 * 10 ^ 31 := by decide
    have : (1000000 : Nat) ≤ 10 ^ 31 := by decide
    omega)
  rw [ofString_length]
  exact e
theorem log_small {i : Int} {c : Nat} (hc : c ≤ 1000) (h : i.natAbs ≤ 10 ^ 31 + 1000 * c) : i.natAbs.log2 < 1920 := by
  have h1 : i.natAbs < 2 ^ 200 := by
    have : (10 : Nat) ^ 31 + 1000 * 1000 < 2 ^ 200 := by decide
    omega
  by_cases h0 : i.natAbs = 0
  · rw [h0]
    decide
  · have := (Nat.log2_lt h0).mpr h1
    omega
end Tc
/-! data kept apart from a set of objects (the bag, lists under work) -/
namespace Tc
open PySem L2 Evl
open Classical in
noncomputable def cut (S : Addr → Prop) (H : Hp) : Hp := fun a => if S a then none else H a
theorem cut_in {S : Addr → Prop} {H : Hp} {a : Addr} (h : S a) : cut S H a = none := by
  unfold cut
  rw [if_pos h]
theorem cut_at {S : Addr → Prop} {H : Hp} {a : Addr} {o : HO} (h : H a = some o) (n : ¬ S a) : cut S H a = some o := by
  unfold cut
  rw [if_neg n]
  exact h
theorem cut_same (S : Addr → Prop) (H : Hp) : Same (cut S H) H := fun a o h => by
  by_cases n : S a
  · rw [cut_in n] at h
    cases h
  · unfold cut at h
    rw [if_neg n] at h
    exact h
theorem cut_out {S : Addr → Prop} {H : Hp} {a : Addr} {o : HO} (h : cut S H a = some o) : ¬ S a := fun n => by
  rw [cut_in n] at h
  cases h
theorem cut_hid (b : Addr) (H : Hp) : cut (fun a => a = b) H = hid b H := by
  funext a
  unfold cut hid
  by_cases h : a = b
  · rw [if_pos h, if_pos h]
  · rw [if_neg h, if_neg h]
/-- what is kept apart is there -/
structure Sok (S : Addr → Prop) (b : Addr) (H : Hp) : Prop where
  mem : S b
  old : ∀ a, S a → H a ≠ none
section
variable {S : Addr → Prop} {b : Addr} {K : PySem.W.Frag} {σ : L2.St} {H H' : Hp} {ta tb tc te : TE} {t : TT} {x y z v : V} {d : PyData}
theorem Sok.fr (h : Sok S b H) (f : Fr b H H') : Sok S b H' := ⟨h.mem, fun a m => by
  by_cases e : a = b
  · obtain ⟨x, y, hb, _⟩ := f.bag
    rw [e, hb]
    exact fun z => nomatch z
  · cases h1 : H a with
    | none => exact absurd h1 (h.old a m)
    | some o =>
      rw [f.at h1 e]
      exact fun z => nomatch z⟩
theorem Sok.new (h : Sok S b H) {p : Addr} (hp : H p = none) : ¬ S p := fun m => h.old p m hp
theorem cut_sm (h : S b) (f : Fr b H H') : Same (cut S H) (cut S H') := fun a o e => by
  have n := cut_out e
  exact cut_at (f.at (cut_same S H a o e) fun z => n (z ▸ h)) n
/-- the objects of S may change -/
theorem cut_upd {p : Addr} {o : HO} (h : S p) : cut S (upd H p o) = cut S H := by
  funext a
  unfold cut
  by_cases m : S a
  · rw [if_pos m, if_pos m]
  · rw [if_neg m, if_neg m, upd_ne (fun z : a = p => m (z ▸ h))]
theorem cdt_new {p : Addr} {vs : List V} {ds : List PyData} (hS : Sok S b H) (hB : Bag H b) (hp : H p = none) (h : DpAll K (cut S H) vs ds) : Dp K (cut S (upd H p (.tup vs))) (.ref p) (.tuple ds) :=
  .tup (st_of (cut_at upd_same (hS.new hp))) (dps_same (cut_sm hS.mem (Fr.new hB hp)) _ _ h)
theorem cdl_new {p : Addr} {vs : List V} {ds : List PyData} (hS : Sok S b H) (hB : Bag H b) (hp : H p = none) (h : DpAll K (cut S H) vs ds) : Dp K (cut S (upd H p (.lst vs))) (.ref p) (.list ds) :=
  .lst (sq_of (cut_at upd_same (hS.new hp))) (dps_same (cut_sm hS.mem (Fr.new hB hp)) _ _ h)
def CD (S : Addr → Prop) (b : Addr) (K : PySem.W.Frag) (te : TE) (σ : L2.St) (H : Hp) (d : PyData) : Prop := ∀ H1, Fr b H H1 → ∀ Q : VK, (∀ v H2, Fr b H1 H2 → Dp K (cut S H2) v d → Q v H2) → te σ H1 Q
def CDA (S : Addr → Prop) (b : Addr) (K : PySem.W.Frag) (ta : TA) (σ : L2.St) (H : Hp) (ds : List PyData) : Prop := ∀ H1, Fr b H H1 → ∀ Q : List V → Hp → Prop, (∀ vs H2, Fr b H1 H2 → DpAll K (cut S H2) vs ds → Q vs H2) → ta σ H1 Q
def CDL (S : Addr → Prop) (b : Addr) (K : PySem.W.Frag) (te : TE) (σ : L2.St) (H : Hp) (ds : List PyData) : Prop := ∀ H1, Fr b H H1 → ∀ Q : VK, (∀ p vs H2, Fr b H1 H2 → H1 p = none → p ≠ b → H2 p = some (.lst vs) → DpAll K (cut S H2) vs ds → Q (.ref p) H2) → te σ H1 Q
theorem cd_c (h : ∀ H, Dp K H v d) : CD S b K (tC v) σ H d := fun H1 e _ q => q v H1 (Fr.refl e.bag) (h _)
theorem cd_neg {i : Int} : CD S b K (tUn (rU fun i => .int (-i)) (tC (.int i))) σ H (.int (-i)) := fun H1 e _ q => ⟨i, rfl, q _ H1 (Fr.refl e.bag) (.int _)⟩
theorem cd_pow {i j : Int} (h : CPow i j) : CD S b K (tOp (rI CPow fun i j => .int (i ^ j.toNat)) (tC (.int i)) (tC (.int j))) σ H (.int (i ^ j.toNat)) := fun H1 e _ q => ⟨i, j, rfl, rfl, h, q _ H1 (Fr.refl e.bag) (.int _)⟩
theorem cda_nil : CDA S b K tNil σ H [] := fun H1 e _ q => q [] H1 (Fr.refl e.bag) .nil
theorem cda_cons {tr : TA} {ds : List PyData} (hS : S b) (h : CD S b K te σ H d) (r : CDA S b K tr σ H ds) : CDA S b K (tCons te tr) σ H (d :: ds) := fun H1 e _ q =>
  h H1 e _ fun v H2 e2 hv => r H2 (e.trans e2) _ fun vs H3 e3 hvs => q (v :: vs) H3 (e2.trans e3) (.cons (dp_same (cut_sm hS e3) _ _ hv) hvs)
theorem cd_tup {ta : TA} {ds : List PyData} (hS : Sok S b H) (h : CDA S b K ta σ H ds) (hl : ds.length ≤ 100000) : CD S b K (tTup ta) σ H (.tuple ds) := fun H1 e _ q =>
  h H1 e _ fun vs H2 e2 hv => ⟨sz_of (by rw [dps_len hv]; exact hl), fun p hp => q (.ref p) _ (e2.trans (Fr.new e2.bag hp)) (cdt_new ((hS.fr e).fr e2) e2.bag hp hv)⟩
theorem cd_lst {ta : TA} {ds : List PyData} (hS : Sok S b H) (h : CDA S b K ta σ H ds) (hl : ds.length ≤ 100000) : CD S b K (tLst ta) σ H (.list ds) := fun H1 e _ q =>
  h H1 e _ fun vs H2 e2 hv => ⟨sz_of (by rw [dps_len hv]; exact hl), fun p hp => q (.ref p) _ (e2.trans (Fr.new e2.bag hp)) (cdl_new ((hS.fr e).fr e2) e2.bag hp hv)⟩
theorem cdl_lst {ta : TA} {ds : List PyData} (hS : S b) (h : CDA S b K ta σ H ds) (hl : ds.length ≤ 100000) : CDL S b K (tLst ta) σ H ds := fun H1 e _ q =>
  h H1 e _ fun vs H2 e2 hv => ⟨sz_of (by rw [dps_len hv]; exact hl), fun p hp => q p vs _ (e2.trans (Fr.new e2.bag hp)) (fr_back' e2 hp) (e2.bag.ne hp) upd_same (dps_same (cut_sm hS (Fr.new e2.bag hp)) _ _ hv)⟩
theorem cdl_cat {i : Nat} {p : Addr} {vs : List V} {ds es : List PyData} (hS : S b) (hσ : σ[i]? = some (some (.ref p))) (hp : H p = some (.lst vs)) (hpb : p ≠ b) (hd : DpAll K (cut S H) vs ds) (h : CDL S b K tb σ H es) (hl : ds.length + es.length ≤ 100000) :
    CDL S b K (tOp rCat (tVar i) tb) σ H (ds ++ es) := fun H1 e _ q => ⟨.ref p, hσ, h H1 e _ fun r ws H2 e2 hr hrb hr2 hd2 => ⟨p, r, vs, ws, rfl, rfl, (e.trans e2).at hp hpb, hr2, sz_of (by rw [dps_len hd, dps_len hd2]; exact hl), fun s hs =>
  q s (vs ++ ws) _ (e2.trans (Fr.new e2.bag hs)) (fr_back' e2 hs) (e2.bag.ne hs) upd_same (dps_app (dps_same (cut_sm hS ((e.trans e2).trans (Fr.new e2.bag hs))) _ _ hd) (dps_same (cut_sm hS (Fr.new e2.bag hs)) _ _ hd2))⟩⟩
/-- the promise of a def that hands back data, drawing -/
def spNew (K : PySem.W.Frag) (g : PyData → Bool) : Sp := fun vs H Q _ => ∃ (b : Addr) (S : Addr → Prop), vs = [.ref b] ∧ Bag H b ∧ Sok S b H ∧ ∀ v d H', Fr b H H' → Dp K (cut S H') v d → g d = true → Q v H'
/-- one drawn item of a list of data -/
theorem cdraw_item {i j : Nat} {p : Addr} {vs : List V} {ds : List PyData} {Q : VK} {E : XK} (hS : S b) (hB : Bag H b) (hσ : σ[i]? = some (some (.ref p))) (hσ2 : σ[j]? = some (some (.ref b))) (hp : H p = some (.lst vs)) (hpb : p ≠ b) (hd : DpAll K (cut S H) vs ds) (h0 : 0 < ds.length) (hl : ds.length < 1000)
    (q : ∀ v d H', Fr b H H' → d ∈ ds → Dp K (cut S H') v d → Q v H') : tOp (rIxL K) (tVar i) (tCall spTake [] E (tCons (tVar j) (tCons (tCB (rLenS K) (tCons (tVar i) tNil)) tNil))) σ H Q := by
  refine ⟨.ref p, hσ, .ref b, hσ2, .ref p, hσ, p, vs, rfl, .inl (sq_of hp), b, _, rfl, hB, ?_, ?_, fun r H' fr h0' h1' => ?_⟩
  · have := dps_len hd
    omega
  · have := dps_len hd
    omega
  · obtain ⟨n, rfl⟩ : ∃ n : Nat, r = (n : Int) := ⟨r.toNat, by omega⟩
    have hlt : n < vs.length := by omega
    obtain ⟨d, hd1, hd2⟩ := dps_at hd (List.getElem?_eq_getElem hlt)
    exact ⟨p, vs, n, vs[n], rfl, rfl, sq_of (fr.at hp hpb), atI_nat (List.getElem?_eq_getElem hlt), q _ d H' fr (List.mem_of_getElem? hd1) (dp_same (cut_sm hS fr) _ _ hd2)⟩
end
end Tc
namespace Tc
open PySem L2 Evl
section
variable {S : Addr → Prop} {b : Addr} {K : PySem.W.Frag} {σ : L2.St} {H H' : Hp} {ta tb tc te : TE} {t : TT} {x y z v : V} {d : PyData}
theorem ev_isiT (ha : Ev ta σ H v) (h : Dp K H v d) : Ev (tCB (rIsiT K) (tCons ta (tCons (tTup (tCons (tC (.ty "tuple")) (tCons (tC (.ty "list")) tNil))) tNil))) σ H (.bl (isTup d || isLst d)) := fun H1 e Q q =>
  ha H1 e _ fun H2 e2 => ⟨sz_of (by simp), fun p hp => ⟨v, p, [.ty "tuple", .ty "list"], .type (tyN d), [.type "tuple", .type "list"], isTup d || isLst d, rfl, upd_same, .cons (.ty _) (.cons (.ty _) .nil), ty_dp (dp_same ((e.trans e2).trans (Ex.new hp)) _ _ h),
    kitAny_cons (kit_ty (kit_tuple (dp_nodict h))) (fun e1 => kitAny_cons (kit_ty (kit_list (dp_nodict h))) (fun e3 => by rw [e1, e3]; exact kitAny_nil) fun e3 => by rw [e1, e3]; rfl) (fun e1 => by rw [e1]; rfl), q _ (e2.trans (Ex.new hp))⟩⟩
theorem cd_ev (h : ∀ H, Ev te σ H v) (hd : ∀ H, Dp K H v d) : CD S b K te σ H d := fun H1 e _ q => h H1 H1 (Ex.refl H1) _ fun H2 x2 => q v H2 (Fr.ex e.bag x2) (hd _)
theorem cd_item {ds : List PyData} {j : Nat} (hS : S b) (h : CDL S b K ta σ H ds) (hb : ∀ H, Ev tb σ H (.int (j : Int))) (hj : ds[j]? = some d) : CD S b K (tOp (rIxL K) ta tb) σ H d := fun H1 e _ q =>
  h H1 e _ fun p vs H2 f2 hp hpb h2 hd => hb H2 H2 (Ex.refl H2) _ fun H3 x3 => by
    obtain ⟨v, hv, hv2⟩ := dps_at' hd hj
    exact ⟨p, vs, j, v, rfl, rfl, sq_of (x3 p _ h2), atI_nat hv, q v H3 (f2.trans (Fr.ex f2.bag x3)) (dp_same (cut_sm hS (Fr.ex f2.bag x3)) _ _ hv2)⟩
def rAddSt : R2 := fun x y H Q => ∃ i j, x = .str i ∧ y = .str j ∧ i.length + j.length ≤ sizeLine ∧ Q (.str (i ++ j)) H
theorem rv_addS {i j : Str} (h : i.length + j.length ≤ 10000000) : RV rAddSt (.str i) (.str j) H (.str (i ++ j)) := fun H1 _ _ q => ⟨i, j, rfl, rfl, Nat.le_trans h (by decide), q H1 (Ex.refl H1)⟩
theorem ev_slS {tl th : TO} {s : Str} {lo hi : Option Int} (h : Ev te σ H (.str s)) (h1 : EvO tl σ H lo) (h2 : EvO th σ H hi) (hs : s.length ≤ 10000000) : Ev (tSl rSlS te tl th) σ H (.str (cutS s lo hi)) := fun H1 e _ q =>
  h H1 e _ fun H2 e2 => h1 H2 (e.trans e2) _ fun H3 e3 => h2 H3 ((e.trans e2).trans e3) _ fun H4 e4 => ⟨s, rfl, Nat.le_trans hs (by decide), q H4 ((e2.trans e3).trans e4)⟩
theorem ev_upper {s : Str} (h : Ev te σ H (.str s)) (hs : s.length ≤ 5592405) : Ev (tM0 (fun x xs H Q => ∃ a, x = .str a ∧ xs = [] ∧ a.length ≤ 5592405 ∧ Q (.str (Txt.upper a)) H) te) σ H (.str (Txt.upper s)) := fun H1 e _ q =>
  h H1 e _ fun H2 e2 => ⟨⟨s, rfl⟩, s, rfl, rfl, hs, q H2 e2⟩
theorem ev_strI {i : Int} (h : Ev te σ H (.int i)) (hs : i.natAbs.log2 < 1920) : Ev (tCB (fun xs H Q => ∃ i, xs = [.int i] ∧ i.natAbs.log2 < 1920 ∧ Q (.str (toString i)) H) (tCons te tNil)) σ H (.str (toString i)) := ev_cb (ea_cons h ea_nil) fun H1 _ _ q => ⟨i, rfl, hs, q H1 (Ex.refl H1)⟩
theorem ev_strB {k : Bool} (h : Ev te σ H (.bl k)) : Ev (tCB rStrB (tCons te tNil)) σ H (.str (if k = true then "True" else "False")) := ev_cb (ea_cons h ea_nil) fun H1 _ _ q => ⟨k, rfl, q H1 (Ex.refl H1)⟩
theorem rv_addB {k : Bool} {i : Int} : RV rAddB (.bl k) (.int i) H (.int ((if k = true then (1 : Int) else 0) + i)) := fun H1 _ _ q => ⟨k, i, rfl, rfl, q H1 (Ex.refl H1)⟩
theorem rv_subB {k : Bool} {i : Int} : RV rSubB (.bl k) (.int i) H (.int ((if k = true then (1 : Int) else 0) - i)) := fun H1 _ _ q => ⟨k, i, rfl, rfl, q H1 (Ex.refl H1)⟩
theorem ru_negB {k : Bool} : RU rNegB (.bl k) H (.int (-(if k = true then (1 : Int) else 0))) := fun H1 _ _ q => ⟨k, rfl, q H1 (Ex.refl H1)⟩
/-- the promise of the def that spoils data -/
def spSp (K : PySem.W.Frag) (n : Nat) : Sp := fun vs H Q _ => ∃ (b : Addr) (v : V) (d : PyData) (S : Addr → Prop) (c : Nat), vs = [.ref b, v] ∧ Bag H b ∧ Sok S b H ∧ Dp K (cut S H) v d ∧ gd c n d = true ∧ c ≤ 8 ∧
  ∀ v' d' H', Fr b H H' → Dp K (cut S H') v' d' → gd (c + 1) (n + 3) d' = true → Q v' H'
end
theorem pow_bd {c : Nat} (h : c ≤ 9) : 100 * 3 ^ c ≤ 1968300 ∧ 100 ≤ 100 * 3 ^ c := by
  have h1 : 3 ^ c ≤ 3 ^ 9 := Nat.pow_le_pow_right (by decide) h
  have h2 : 1 ≤ 3 ^ c := Nat.pos_of_ne_zero (by
    have := Nat.pow_pos (n := c) (show 0 < 3 by decide)
    omega)
  have h3 : (3 : Nat) ^ 9 = 19683 := by decide
  omega
end Tc
namespace Tc
open PySem L2 Evl
section
variable {S : Addr → Prop} {b : Addr} {K : PySem.W.Frag} {σ : L2.St} {H H' : Hp} {ta tb tc te : TE} {t : TT} {x y z v : V} {d : PyData}
/-- one more object kept apart -/
def also (S : Addr → Prop) (l : Addr) : Addr → Prop := fun a => S a ∨ a = l
theorem also_same {l : Addr} : Same (cut (also S l) H) (cut S H) := fun a o h => cut_at (cut_same _ _ _ _ h) fun m => cut_out h (.inl m)
theorem also_new {l : Addr} (hS : S b) (f : Fr b H H') (hl : H l = none) : Same (cut S H) (cut (also S l) H') := fun a o h => by
  have n := cut_out h
  have h1 := cut_same S H a o h
  refine cut_at (f.at h1 fun z => n (z ▸ hS)) fun m => ?_
  rcases m with m | m
  · exact n m
  · rw [m, hl] at h1
    cases h1
theorem Sok.also {l : Addr} (h : Sok S b H) (hl : H l ≠ none) : Sok (also S l) b H := ⟨.inl h.mem, fun a m => by
  rcases m with m | m
  · exact h.old a m
  · rw [m]
    exact hl⟩
def SQ (K : PySem.W.Frag) (H : Hp) (a : Addr) (xs : List V) : Prop := SqL K H a xs ∨ SqT K H a xs
theorem SQ.same {a : Addr} {xs : List V} (h : SQ K H a xs) (e : Same H H') : SQ K H' a xs := by
  rcases h with h | h
  · exact .inl (ex_l e h)
  · exact .inr (ex_t e h)
theorem ev_lenQ {p : Addr} {xs : List V} (ha : Ev ta σ H (.ref p)) (h : SQ K H p xs) : Ev (tCB (rLenS K) (tCons ta tNil)) σ H (.int (xs.length : Int)) := fun H1 e Q q =>
  ha H1 e _ fun H2 e2 => ⟨p, xs, rfl, h.same (e.trans e2), q H2 e2⟩
theorem cut_len1 (xs : List V) (k : Nat) : (cutV xs none (some (k : Int))).length ≤ k := by
  unfold cutV
  rw [HT.sIx_nat, HT.sIx_none, List.length_take]
  omega
theorem cut_len2 (xs : List V) (k : Nat) : (cutV xs (some (k : Int)) none).length ≤ xs.length - k := by
  unfold cutV
  rw [HT.sIx_nat, HT.sIx_none, List.length_take, List.length_drop]
  omega
theorem dps_cut {xs : List V} {ds : List PyData} (lo hi : Option Int) (h : DpAll K H xs ds) : ∃ es, DpAll K H (cutV xs lo hi) es ∧ ∀ e ∈ es, e ∈ ds := by
  unfold cutV
  exact ⟨_, dps_take _ (dps_drop _ h), fun e m => List.mem_of_mem_drop (List.mem_of_mem_take m)⟩
theorem mem_set {α : Type} {l : List α} {n : Nat} {a e : α} (h : e ∈ l.set n a) : e ∈ l ∨ e = a := by
  rcases List.mem_or_eq_of_mem_set h with h | h
  · exact .inl h
  · exact .inr h
end
end Tc
/-! data beside texts: ==, not in -/
namespace Tc
open PySem L2 Evl
def eqS (s : Str) : PyData → Bool
  | .str z => decide (z = s) | _ => false
def rEqStr (K : PySem.W.Frag) : R2 := fun x y H Q => ∃ (d : PyData) (s : Str), Dp K H x d ∧ y = .str s ∧ Q (.bl (eqS s d)) H
section
variable {X : Cx}
theorem op_eqStr (hu : X.A.units + 64 < cLine) : OpR X (compareOp .Eq) (rEqStr X.K) := by
  intro pins s σ H x y v u Q I rx ry h
  obtain ⟨d, z, hd, rfl, q⟩ := h
  cases hd with
  | non => exact op_eq pins s σ H _ _ v u Q I rx ry ⟨rfl, q⟩
  | bl b => exact op_eq pins s σ H _ _ v u Q I rx ry ⟨rfl, q⟩
  | int i => exact op_eq pins s σ H _ _ v u Q I rx ry ⟨rfl, q⟩
  | str w =>
    refine op_eq pins s σ H _ _ v u Q I rx ry ⟨rfl, ?_⟩
    rw [show decide (V.str w = V.str z) = decide (w = z) from decide_eq_decide.mpr ⟨fun e => V.str.inj e, fun e => congrArg V.str e⟩]
    exact q
  | @lst a xs ds h r =>
    cases (show v = Value.ref a from rx)
    obtain ⟨t, rfl⟩ := (show ∃ t, u = Value.str z t from ry)
    obtain ⟨its, _, pl, _⟩ := I.list h
    exact SeqAt.RcAt.list_str z t pl.isList (by omega) _ _ _ _ ⟨.bl false, H, I, rfl, q⟩
  | @tup a xs ds h r =>
    cases (show v = Value.ref a from rx)
    obtain ⟨t, rfl⟩ := (show ∃ t, u = Value.str z t from ry)
    obtain ⟨its, _, pl, _⟩ := I.tuple h
    exact SeqAt.RcAt.tuple_str z t pl (by omega) _ _ _ _ ⟨.bl false, H, I, rfl, q⟩
end
def inS (ss : List Str) : PyData → Bool
  | .str z => decide (z ∈ ss) | _ => false
def rNotInStr (K : PySem.W.Frag) : R2 := fun x y H Q => ∃ (d : PyData) (p : Addr) (ss : List Str), Dp K H x d ∧ y = .ref p ∧ SqT K H p (ss.map V.str) ∧ Q (.bl (!inS ss d)) H
theorem inV_str (z : Str) : ∀ ss : List Str, inV (.str z) (ss.map V.str) = decide (z ∈ ss)
  | [] => rfl
  | s :: ss => by
    have ih := inV_str z ss
    unfold inV at ih ⊢
    rw [List.map_cons, List.any_cons, ih]
    show ((s == z) || decide (z ∈ ss)) = decide (z ∈ s :: ss)
    by_cases h : s = z
    · subst h
      simp
    · have h2 : ¬ z = s := fun e => h e.symm
      simp [h, h2]
theorem inV_other {x : V} (hx : ∀ s, eqV (.str s) x = false) : ∀ ss : List Str, inV x (ss.map V.str) = false
  | [] => rfl
  | s :: ss => by
    have ih := inV_other hx ss
    unfold inV at ih ⊢
    rw [List.map_cons, List.any_cons, ih, hx]
    rfl
theorem flat_strs' : ∀ ss : List Str, (ss.map V.str).all flatV = true
  | [] => rfl
  | s :: ss => by rw [List.map_cons, List.all_cons, flat_strs' ss]; rfl
theorem strs_mem : ∀ {us : List Value} {xs : List Str}, PyProof.Rows.StrsAre us xs → ∀ v ∈ us, ∃ (z : Str) (t : Tok), v = .str z t
  | _, _, .nil, v, m => by simp at m
  | _, _, .cons z t r, v, m => by
    rcases List.mem_cons.mp m with e | m
    · exact ⟨z, t, e⟩
    · exact strs_mem r v m
section
variable {X : Cx}
theorem op_notInStr (hu : X.A.units + 64 < cLine) : OpR X (compareOp .NotIn) (rNotInStr X.K) := by
  intro pins s σ H x y v u Q I rx ry h
  obtain ⟨d, p, ss, hd, rfl, hp, q⟩ := h
  have flat : ∀ x' : V, flatV x' = true → RelV x' v → Q (.bl (!inV x' (ss.map V.str))) H → wpAny (model X.prog X.w) X.A (compareOp .NotIn v u) (EP X pins σ Q) X.xe s := fun x' fx rx' q' =>
    op_notIn_seq pins s σ H x' _ v u Q I rx' ry ⟨p, _, rfl, .inr hp, fx, flat_strs' ss, q'⟩
  have refs : ∀ a : Addr, v = Value.ref a → (∀ (w : Str) (t : Tok), SeqAt.EqAt X.A.in1 s (.str w t) (.ref a) false) → Q (.bl true) H → wpAny (model X.prog X.w) X.A (compareOp .NotIn v u) (EP X pins σ Q) X.xe s := fun a ev he q' => by
    cases (show u = Value.ref p from ry)
    subst ev
    obtain ⟨its, rv, pl, _⟩ := I.tuple hp
    refine SeqAt.notIn_tupleAt (fun _ => false) pl (fun y hy => ?_) ⟨.bl _, H, I, rfl, ?_⟩
    · have sv := strsAre_of rv
      obtain ⟨i, hi, e⟩ := List.mem_iff_getElem.mp (show y ∈ its by simpa using hy)
      obtain ⟨z, t, e2⟩ := strs_mem sv y (e ▸ List.getElem_mem hi)
      rw [e2]
      exact he z t
    · rw [show its.toArray.any (fun _ => false) = false by simp]
      exact q'
  cases hd with
  | non => exact flat .non rfl rx (by rw [inV_other (fun s => rfl)]; exact q)
  | bl b => exact flat (.bl b) rfl rx (by rw [inV_other (fun s => rfl)]; exact q)
  | int i => exact flat (.int i) rfl rx (by rw [inV_other (fun s => rfl)]; exact q)
  | str w => exact flat (.str w) rfl rx (by rw [inV_str]; exact q)
  | @lst a xs ds h r =>
    obtain ⟨its, _, pl, _⟩ := I.list h
    exact refs a rx (fun w t => SeqAt.EqAt.str_list w t pl.isList (by simp; omega)) q
  | @tup a xs ds h r =>
    obtain ⟨its, _, pl, _⟩ := I.tuple h
    exact refs a rx (fun w t => SeqAt.EqAt.str_tuple w t pl (by simp; omega)) q
end
section
variable {K : PySem.W.Frag} {σ : L2.St} {H : Hp} {ta tb tc te : TE} {x y z v : V} {d : PyData}
theorem ev_eqStr {s : Str} (ha : Ev ta σ H v) (h : Dp K H v d) (hb : Ev tb σ H (.str s)) : Ev (tOp (rEqStr K) ta tb) σ H (.bl (eqS s d)) := ev_op ha hb fun H1 e _ q => ⟨d, s, dp_same e _ _ h, rfl, q H1 (Ex.refl H1)⟩
theorem ev_notInStr {ss : List Str} (ha : Ev ta σ H v) (h : Dp K H v d) (hb : EvU tb σ H (ss.map V.str)) : Ev (tOp (rNotInStr K) ta tb) σ H (.bl (!inS ss d)) := ev_opU ha hb fun p H1 hp e1 H2 e2 _ q => ⟨d, p, ss, dp_same (e1.trans e2) _ _ h, rfl, st_of (e2 p _ hp), q H2 (Ex.refl H2)⟩
theorem ev_all {bs : List Bool} (ha : EvL ta σ H (bs.map V.bl)) : Ev (tCB (rAll K) (tCons ta tNil)) σ H (.bl (bs.all id)) := fun H1 e Q q =>
  ha H1 e _ fun p H2 hp e2 h2 => ⟨p, bs, rfl, sq_of h2, q H2 e2⟩
theorem ev_lst (ha : Ev ta σ H v) (h : Dp K H v d) : Ev (tCB (rIsi K) (tCons ta (tCons (tC (.ty "list")) tNil))) σ H (.bl (isLst d)) := ev_isi ha h (kit_list (dp_nodict h))
theorem ev_ix2 {p : Addr} {xs : List V} {x0 x1 : V} (ha : Ev ta σ H (.ref p)) (h : SqT K H p (x0 :: x1 :: v :: xs)) : Ev (tOp (rIxT K) ta (tC (.int 2))) σ H v := ev_ixT (j := 2) ha h rfl
theorem three_of {α : Type} {l : List α} (h : l.length = 3) : ∃ x y z, l = [x, y, z] := match l, h with | [x, y, z], _ => ⟨x, y, z, rfl⟩
end
end Tc
namespace Tc
open PySem L2 Evl
def rEqE (K : PySem.W.Frag) : R2 := fun x y H Q => ∃ (a b : Addr) (xs : List V), x = .ref a ∧ y = .ref b ∧ SqL K H a xs ∧ SqL K H b [] ∧ Q (.bl xs.isEmpty) H
theorem op_eqE {X : Cx} (hu : X.A.units + 64 < cLine) : OpR X (compareOp .Eq) (rEqE X.K) := by
  intro pins s σ H x y v u Q I rx ry h
  obtain ⟨a, b, xs, rfl, rfl, ha, hb, q⟩ := h
  cases xs with
  | nil => exact op_eqD hu pins s σ H _ _ v u Q I rx ry ⟨.list [], .list [], .lst ha .nil, .lst hb .nil, rfl, rfl, q⟩
  | cons z zs =>
    cases (show v = Value.ref a from rx)
    cases (show u = Value.ref b from ry)
    obtain ⟨i1, r1, l1, _⟩ := I.list ha
    obtain ⟨i2, r2, l2, _⟩ := I.list hb
    have h1 : (i1.toArray.size != i2.toArray.size) = true := by
      have e1 := r1.length
      have e2 := r2.length
      simp only [List.size_toArray]
      rw [← e1, ← e2]
      rfl
    exact SeqAt.RcAt.lists_lengths l1.isList l2.isList h1 (by omega) _ _ _ _ ⟨.bl false, H, I, rfl, q⟩
section
variable {K : PySem.W.Frag} {σ : L2.St} {H : Hp} {ta tb tc te : TE} {t : TT} {x y z v : V} {d : PyData}
theorem ev_dict2 {i j n : Int} {x y z : V} (hb : Ev tb σ H (.int n)) (hv : valV (mergeK [] [((.inl i : Key), x), (.inl j, y)]) (.inl n) = some z) : Ev (tDGet (tDisp [(tC (.int i), tC x), (tC (.int j), tC y)]) tb) σ H z := fun H1 e Q q p hp =>
  ⟨upd_same, [((.inl i : Key), x), (.inl j, y)], rfl, by simp, hb _ (e.trans (Ex.mut (Ex.new hp) hp)) _ fun H3 e3 => ⟨p, z, rfl, hv ▸ DGet.k (k := .inl n) (e3 p _ upd_same), q H3 ((Ex.mut (Ex.new hp) hp).trans e3)⟩⟩
theorem ev_eqE {xs : List V} (ha : EvL ta σ H xs) : Ev (tOp (rEqE K) ta (tLst tNil)) σ H (.bl xs.isEmpty) :=
  ev_opLL ha (el_lst ea_nil (by simp)) fun p r H1 hp hr x1 H2 x2 Q q => ⟨p, r, _, rfl, rfl, sq_of (x2 p _ hp), sq_of (x2 r _ hr), q H2 (Ex.refl H2)⟩
theorem given_emptyB {n : Nat} {ds : List PyData} (f : PyData → Bool) (u : Nat → V) (hn : n = ds.length) : (given n (fun i => !f (ds.getD i .none)) u).isEmpty = ds.all f := by
  subst hn
  rw [Bool.eq_iff_iff, given_empty, List.all_eq_true]
  constructor
  · intro h d m
    obtain ⟨i, hi, rfl⟩ := List.mem_iff_getElem.mp m
    have := h i hi
    rw [List.getD_eq_getElem?_getD, List.getElem?_eq_getElem hi] at this
    cases e : f ds[i] with
    | true => rfl
    | false =>
      simp only [Option.getD_some] at this
      rw [e] at this
      cases this
  · intro h i hi
    rw [List.getD_eq_getElem?_getD, List.getElem?_eq_getElem hi]
    simp only [Option.getD_some]
    rw [h _ (List.getElem_mem hi)]
    rfl
end
end Tc
namespace Tc
open PySem L2 Evl
/-- a list at D that collects data, one a turn, beside a bag at b, apart from S -/
structure ColE (S : Addr → Prop) (b : Addr) (K : PySem.W.Frag) (g : PyData → Bool) (H : Hp) (D : Addr) (i : Nat) (H' : Hp) : Prop where
  fr : Fr b H H'
  sok : Sok S b H
  new : H D = none
  ne : D ≠ b
  ex : ∃ (vs : List V) (ds : List PyData), H' D = some (.lst vs) ∧ DpAll K (cut (also S D) H') vs ds ∧ vs.length = i ∧ ∀ d ∈ ds, g d = true
section
variable {S : Addr → Prop} {b D : Addr} {K : PySem.W.Frag} {g : PyData → Bool} {H H' H4 : Hp} {i : Nat} {y : V} {d : PyData}
theorem ColE.start (hS : Sok S b H) (hB : Bag H b) (hD : H D = none) : ColE S b K g H D 0 (upd H D (.lst [])) := ⟨Fr.new hB hD, hS, hD, hB.ne hD, [], [], upd_same, .nil, rfl, fun d m => by simp at m⟩
theorem ColE.skip (c : ColE S b K g H D i H') (f : Fr b H' H4) : ColE S b K g H D i H4 := by
  obtain ⟨vs, ds, h1, h2, h3, h4⟩ := c.ex
  exact ⟨c.fr.trans f, c.sok, c.new, c.ne, vs, ds, f.at h1 c.ne, dps_same (cut_sm (.inl c.sok.mem) f) _ _ h2, h3, h4⟩
theorem ColE.push (c : ColE S b K g H D i H') (f : Fr b H' H4) (hy : Dp K (cut (also S D) H4) y d) (hg : g d = true) (hi : i < 10000) : ∃ acc, H4 D = some (.lst acc) ∧ acc.length < sizeLine ∧ ColE S b K g H D (i + 1) (upd H4 D (.lst (acc ++ [y]))) := by
  obtain ⟨vs, ds, h1, h2, h3, h4⟩ := c.ex
  refine ⟨vs, f.at h1 c.ne, sz_lt (by omega), Fr.mut (c.fr.trans f) c.new c.ne, c.sok, c.new, c.ne, vs ++ [y], ds ++ [d], upd_same, ?_, by simp; omega, fun e m => ?_⟩
  · rw [cut_upd (.inr rfl)]
    exact dps_app (dps_same (cut_sm (.inl c.sok.mem) f) _ _ h2) (.cons hy .nil)
  · rcases List.mem_append.mp m with m | m
    · exact h4 e m
    · rw [List.mem_singleton.mp m]
      exact hg
theorem ColE.at (c : ColE S b K g H D i H') : H' D ≠ none := by
  obtain ⟨vs, ds, h1, _⟩ := c.ex
  rw [h1]
  exact fun z => nomatch z
theorem ColE.from {H1 : Hp} (hS : Sok S b H) (f : Fr b H H1) (c : ColE S b K g H1 D i H') : ColE S b K g H D i H' := by
  obtain ⟨vs, ds, h1, h2, h3, h4⟩ := c.ex
  exact ⟨f.trans c.fr, hS, fr_back' f c.new, c.ne, vs, ds, h1, h2, h3, h4⟩
theorem ColE.sokD (c : ColE S b K g H D i H') : Sok (also S D) b H' := (c.sok.fr c.fr).also c.at
/-- a new tuple of leaves, apart from S and D -/
theorem dp_leaves {p : Addr} {vs : List V} {ds : List PyData} (hS : Sok S b H) (hp : H p = none) (h : ∀ H2, DpAll K H2 vs ds) : Dp K (cut S (upd H p (.tup vs))) (.ref p) (.tuple ds) :=
  .tup (st_of (cut_at upd_same (hS.new hp))) (h _)
/-- keys of a table, one at least -/
def spKeysP : Sp := fun vs H Q _ => ∃ b : Addr, vs = [.ref b] ∧ Bag H b ∧ ∀ l (ks : List Int) H', Fr b H H' → H l = none → l ≠ b → H' l = some (.lst (ks.map V.int)) → (∀ k ∈ ks, 0 ≤ k ∧ k < 1000) → ks.length ≤ 1000 → 0 < ks.length → Q (.ref l) H'
/-- a list of keys at l -/
structure KeysAt (b : Addr) (H : Hp) (l : Addr) (ks : List Int) : Prop where
  ne : l ≠ b
  h : H l = some (.lst (ks.map V.int))
  bd : ∀ k ∈ ks, 0 ≤ k ∧ k < 1000
  few : ks.length ≤ 1000
  some : 0 < ks.length
theorem KeysAt.fr {l : Addr} {ks : List Int} (k : KeysAt b H l ks) (f : Fr b H H') : KeysAt b H' l ks := ⟨k.ne, f.at k.h k.ne, k.bd, k.few, k.some⟩
/-- one of the keys -/
def spOf : Sp := fun vs H Q _ => ∃ (b l : Addr) (ks : List Int), vs = [.ref b, .ref l] ∧ Bag H b ∧ KeysAt b H l ks ∧ ∀ k H', k ∈ ks → Fr b H H' → Q (.int k) H'
end
end Tc
/-! a set comprehension with two for's, its members ints -/
namespace Tc
open PySem PySem.Spec PyProof.Rows L2
/-- {elt for t0 in i0 if .. for t1 in i1 if ..} -/
abbrev Sc2 (elt t0 i0 t1 i1 : Expr) (c0 c1 : List Expr) (sc : Scope) (ps : Pos) : Expr := .SetComp elt [⟨t0, i0, c0, 0⟩, ⟨t1, i1, c1, 0⟩] sc ps
/-- the tests of a clause, one behind the other -/
abbrev allOf (cs : List Expr) (env : Env) : Sem Bool := forIn cs true fun c r => if r = true then do let ok ← isTrue c env (eval c env); pure (ForInStep.yield ok) else pure (ForInStep.yield r)
section
variable {prog : Program} {w : World} {A : Around} {R : Result → Shared → Prop} {s : Shared} {elt t0 i0 t1 i1 : Expr} {c0 c1 : List Expr} {sc : Scope} {ps : Pos} {it acc : Value} {env : Env}
/-- what is raised goes the way that the comprehension's frame notes -/
abbrev Nt (prog : Program) (w : World) (A : Around) (env : Env) (R : Result → Shared → Prop) : Value → Shared → Prop := notedBy (model prog w) A env fun e s' => R (.error e) s'
theorem turnS_out : compTurn (Sc2 elt t0 i0 t1 i1 c0 c1 sc ps) 0 it acc env = (standAt i0.pos >>= fun _ => pyNext it >>= fun r => match r with
      | none => pure (.done .next)
      | some v => (letOwnedTupleGo t0 it v >>= fun _ => assign t0 env v >>= fun _ => allOf c0 env >>= fun ok => if ok then
          (eval i1 env >>= fun x => standAt i1.pos >>= fun _ => foldedSetIterable i1 env x >>= fun x => holding [x] (pyIter x) >>= fun j => runOwn (.compStart (Sc2 elt t0 i0 t1 i1 c0 c1 sc ps) 1 j acc env) env >>= fun _ => again (.compLoop (Sc2 elt t0 i0 t1 i1 c0 c1 sc ps) 0 it acc env))
          else again (.compLoop (Sc2 elt t0 i0 t1 i1 c0 c1 sc ps) 0 it acc env))) := by rfl
theorem turnS_in : compTurn (Sc2 elt t0 i0 t1 i1 c0 c1 sc ps) 1 it acc env = (standAt i1.pos >>= fun _ => pyNext it >>= fun r => match r with
      | none => pure (.done .next)
      | some v => (letOwnedTupleGo t1 it v >>= fun _ => assign t1 env v >>= fun _ => allOf c1 env >>= fun ok => if ok then
          ((eval elt env >>= fun v => standAt elt.pos >>= fun _ => call (.builtin "set.add") [acc, v] >>= fun _ => pure ()) >>= fun _ => again (.compLoop (Sc2 elt t0 i0 t1 i1 c0 c1 sc ps) 1 it acc env))
          else again (.compLoop (Sc2 elt t0 i0 t1 i1 c0 c1 sc ps) 1 it acc env))) := by rfl
/-- one turn of a clause: what comes next is taken, stored and tested; Y: what is wanted where the tests hold, N: where they don't, Z: at the end -/
def TurnOf (prog : Program) (w : World) (A : Around) (env : Env) (E : Value → Shared → Prop) (tg : Expr) (cs : List Expr) (it : Value) (Z : Shared → Prop) (Y N : Shared → Prop) (s : Shared) : Prop :=
  wpAny (model prog w) A (pyNext it) (fun r s₁ => match r with
    | none => Z s₁
    | some v => wpAny (model prog w) A (letOwnedTupleGo tg it v) (fun _ s₂ => wpAny (model prog w) A (assign tg env v) (fun _ s₃ => wpAny (model prog w) A (allOf cs env) (fun ok s₄ => if ok = true then Y s₄ else N s₄) E s₃) E s₂) E s₁) E s
theorem loopS_in (I : Nat → Shared → Prop) (turn : ∀ n s, I n s → TurnOf prog w A env (Nt prog w A env R) t1 c1 it (R (.ok .next))
      (fun s₄ => wpAny (model prog w) A (eval elt env) (fun x s₅ => wpAny (model prog w) A (call (.builtin "set.add") [acc, x]) (fun _ s₆ => ∃ m, m < n ∧ I m s₆) (Nt prog w A env R) s₅) (Nt prog w A env R) s₄) (fun s₄ => ∃ m, m < n ∧ I m s₄) s)
    (n : Nat) (h : I n s) : codeAny (model prog w) A (.compLoop (Sc2 elt t0 i0 t1 i1 c0 c1 sc ps) 1 it acc env) R s := by
  refine codeAny_loop rfl I (fun n s hI => (show wpAny _ A ((compTurn (Sc2 elt t0 i0 t1 i1 c0 c1 sc ps) 1 it acc env).onRaise (fun x => do noteFrame x env; theTreesLotGoes x)) _ _ s from wpAny_noted ?_)) n h
  rw [turnS_in]
  refine wpAny_bind (wpAny_standAt (wpAny_bind (wpAny_mono (turn n s hI) (fun r s₁ h₁ => ?_) fun _ _ z => z)))
  match r, h₁ with
  | none, h₁ => exact wpAny_pure h₁
  | some v, h₁ =>
    refine wpAny_bind (wpAny_mono h₁ (fun _ s₂ h₂ => wpAny_bind (wpAny_mono h₂ (fun _ s₃ h₃ => wpAny_bind (wpAny_mono h₃ (fun ok s₄ h₄ => ?_) fun _ _ z => z)) fun _ _ z => z)) fun _ _ z => z)
    match ok, h₄ with
    | false, h₄ => exact wpAny_pure ⟨rfl, h₄⟩
    | true, h₄ => exact wpAny_bind (wpAny_bind (wpAny_mono h₄ (fun x s₅ h₅ => wpAny_bind (wpAny_standAt (wpAny_bind (wpAny_mono h₅ (fun _ s₆ h₆ => wpAny_pure (wpAny_pure ⟨rfl, h₆⟩)) fun _ _ z => z)))) fun _ _ z => z))
theorem loopS_out (hs : ∀ x, foldedSetIterable i1 env x = pure x) (I : Nat → Shared → Prop) (turn : ∀ n s, I n s → TurnOf prog w A env (Nt prog w A env R) t0 c0 it (R (.ok .next))
      (fun s₄ => wpAny (model prog w) A (eval i1 env) (fun x s₅ => wpAny (model prog w) A (pyIter x) (fun j s₆ => codeAny (model prog w) A (.compStart (Sc2 elt t0 i0 t1 i1 c0 c1 sc ps) 1 j acc env) (fun r s' => match r with
        | .ok _ => ∃ m, m < n ∧ I m s' | .error _ => False) s₆) (Nt prog w A env R) s₅) (Nt prog w A env R) s₄) (fun s₄ => ∃ m, m < n ∧ I m s₄) s)
    (n : Nat) (h : I n s) : codeAny (model prog w) A (.compLoop (Sc2 elt t0 i0 t1 i1 c0 c1 sc ps) 0 it acc env) R s := by
  refine codeAny_loop rfl I (fun n s hI => (show wpAny _ A ((compTurn (Sc2 elt t0 i0 t1 i1 c0 c1 sc ps) 0 it acc env).onRaise (fun x => do noteFrame x env; theTreesLotGoes x)) _ _ s from wpAny_noted ?_)) n h
  rw [turnS_out]
  refine wpAny_bind (wpAny_standAt (wpAny_bind (wpAny_mono (turn n s hI) (fun r s₁ h₁ => ?_) fun _ _ z => z)))
  match r, h₁ with
  | none, h₁ => exact wpAny_pure h₁
  | some v, h₁ =>
    refine wpAny_bind (wpAny_mono h₁ (fun _ s₂ h₂ => wpAny_bind (wpAny_mono h₂ (fun _ s₃ h₃ => wpAny_bind (wpAny_mono h₃ (fun ok s₄ h₄ => ?_) fun _ _ z => z)) fun _ _ z => z)) fun _ _ z => z)
    match ok, h₄ with
    | false, h₄ => exact wpAny_pure ⟨rfl, h₄⟩
    | true, h₄ =>
      refine wpAny_bind (wpAny_mono h₄ (fun x s₅ h₅ => wpAny_bind (wpAny_standAt (wpAny_bind (wpAny_of_eq (hs x) (wpAny_bind (wpAny_holding (wpAny_mono h₅ (fun j s₆ h₆ => wpAny_bind (wpAny_runOwn ?_)) fun _ _ z => z))))))) fun _ _ z => z)
      rw [Around.mark_none]
      refine codeAny_mono h₆ fun r s' hr => ?_
      match r, hr with
      | .ok f, hr => first | exact wpAny_pure ⟨rfl, hr⟩ | exact wpAny_bind (wpAny_pure (wpAny_pure ⟨rfl, hr⟩))
      | .error e, hr => exact hr.elim
/-- the start of either clause's loop -/
theorem startS {k : Nat} (hk : k = 0 ∨ k = 1) (h0 : codeAny (model prog w) A (.compLoop (Sc2 elt t0 i0 t1 i1 c0 c1 sc ps) k it acc env) R s)
    (h : wpAny (model prog w) A (pyIter it) (fun j s' => codeAny (model prog w) A (.compLoop (Sc2 elt t0 i0 t1 i1 c0 c1 sc ps) k j acc env) R s') (Nt prog w A env R) s) :
    codeAny (model prog w) A (.compStart (Sc2 elt t0 i0 t1 i1 c0 c1 sc ps) k it acc env) R s := by
  rcases hk with rfl | rfl
  · refine codeAny_of_tree (show wpAny _ _ ((compStart (Sc2 elt t0 i0 t1 i1 c0 c1 sc ps) 0 it acc env).onRaise (fun x => do noteFrame x env; standAt theWindowsPlace)) _ _ s from wpAny_notedAt ?_)
    unfold compStart
    refine (show wpAny _ _ (ask >>= _) _ _ s from wpAny_bind (wpAny_askSetting (wpAny_ite ?_)))
    split
    · first | exact wpAny_bind (wpAny_pure (wpAny_pure ⟨rfl, h0⟩)) | exact wpAny_pure ⟨rfl, h0⟩
    · first
        | exact wpAny_bind (wpAny_rule (wpAny_bind (wpAny_standAt (wpAny_bind (wpAny_mono h (fun j s' z => wpAny_pure ⟨rfl, z⟩) fun _ _ z => z)))))
        | exact wpAny_bind (wpAny_rule (show wpAny _ _ (standAt i0.pos >>= _) _ _ s from wpAny_bind (wpAny_standAt (wpAny_bind (wpAny_mono h (fun j s' z => wpAny_pure ⟨rfl, z⟩) fun _ _ z => z)))))
  · refine codeAny_of_tree (show wpAny _ _ ((compStart (Sc2 elt t0 i0 t1 i1 c0 c1 sc ps) 1 it acc env).onRaise (fun x => do noteFrame x env; standAt theWindowsPlace)) _ _ s from wpAny_notedAt ?_)
    unfold compStart
    refine (show wpAny _ _ (ask >>= _) _ _ s from wpAny_bind (wpAny_askSetting (wpAny_ite ?_)))
    split
    · first | exact wpAny_bind (wpAny_pure (wpAny_pure ⟨rfl, h0⟩)) | exact wpAny_pure ⟨rfl, h0⟩
    · first
        | exact wpAny_bind (wpAny_rule (wpAny_bind (wpAny_standAt (wpAny_bind (wpAny_mono h (fun j s' z => wpAny_pure ⟨rfl, z⟩) fun _ _ z => z)))))
        | exact wpAny_bind (wpAny_rule (show wpAny _ _ (standAt i1.pos >>= _) _ _ s from wpAny_bind (wpAny_standAt (wpAny_bind (wpAny_mono h (fun j s' z => wpAny_pure ⟨rfl, z⟩) fun _ _ z => z)))))
end
section
variable {X : Cx}
/-- the empty set at D -/
abbrev set0 (w : World) (D : Addr) : HO := SetO w D (fun _ => false) 0
/-- k more in the set at D -/
abbrev setMore (w : World) (D : Addr) (S : Int → Bool) (n : Nat) (k : Int) : HO := SetO w D (fun j => S j || decide (j = k)) (if S k = true then n else n + 1)
/-- behind the first clause's store and tests stands the second clause's own loop; vs: the names of both, vs1: of the second -/
def tSc2 (w : World) (wi : TI) (g : TG) (tt : TT) (wi1 : TI) (g1 : TG) (tt1 : TT) (te : TE) (vs vs1 : List Nat) : TE := fun σ H Q => wi σ H fun J H1 => ∀ D, H1 D = none → ∃ W : Nat → Nat → Hp → Prop, (∃ m, W 0 m (upd H1 D (set0 w D))) ∧ ∀ i m H, W i m H →
  (J.stop i H ∧ Q (.ref D) H) ∨ (J.go i H ∧ ∃ Nx : Hp → Prop, (∀ H', Nx H' → ∃ m', m' < m ∧ W (i + 1) m' H') ∧ ∀ x H', J.yld i H x H' → g x (wipe σ vs) H' fun σ2 H2 => wipe σ2 vs = wipe σ vs ∧ tt σ2 H2 fun b H3 => if b = true then
    wi1 σ2 H3 fun J1 H4 => ∃ W1 : Nat → Nat → Hp → Prop, (∃ m, W1 0 m H4) ∧ ∀ j k H, W1 j k H → (J1.stop j H ∧ Nx H) ∨ (J1.go j H ∧ ∃ Nx1 : Hp → Prop, (∀ H', Nx1 H' → ∃ k', k' < k ∧ W1 (j + 1) k' H') ∧
      ∀ x H', J1.yld j H x H' → g1 x (wipe σ2 vs1) H' fun σ3 H5 => wipe σ3 vs1 = wipe σ2 vs1 ∧ tt1 σ3 H5 fun b H6 => if b = true then te σ3 H6 fun y H7 => ∃ (c : Int) (S : Int → Bool) (n : Nat), y = .int c ∧ H7 D = some (SetO w D S n) ∧ n + 1 < scanBound ∧ Nx1 (upd H7 D (setMore w D S n c)) else Nx1 H6)
    else Nx H3)
theorem add_int {pins : List (Addr × Obj)} {σ : L2.St} {H : Hp} {s : Shared} {E : Value → Shared → Prop} {D : Addr} {S : Int → Bool} {n : Nat} {c : Int} {v : Value} {Q : Value → Shared → Prop} (I : Inv X pins σ H s) (hD : H D = some (SetO X.w D S n)) (room : n + 1 < scanBound) (rv : RelV (.int c) v)
    (h : ∀ s', Inv X pins σ (upd H D (setMore X.w D S n c)) s' → Q .none s') : wpAny (model X.prog X.w) X.A (call (.builtin "set.add") [.ref D, v]) Q E s := by
  obtain ⟨t, rfl⟩ := rv
  refine setR_add (setO_get I hD) room fun h' sb new => h _ (I.write (e := D) (t' := s.toks + 1) (by rw [hD]; trivial) (.inl rfl) (fun b u hb hu => (sb.2 b hb).trans hu) ?_ (setO_new new))
  exact let ⟨o, _, _, _, ho, _⟩ := new; ⟨o, ho⟩
set_option maxHeartbeats 4000000 in
theorem pe_sc2 {elt tg iter tg1 iter1 : Expr} {ifs ifs1 : List Expr} {sc : Scope} {own : List (Str × Nat)} {vs1 : List Nat} {pos : Pos} {wi wi1 : TI} {g g1 : TG} {tt tt1 : TT} {te : TE} (hc : X.calm = true) (hN : X.N.Nodup) (hi : PI X tg iter wi) (ok : BlkOk X.N X.env.scope sc own) (hv : ∀ i ∈ vs1, i ∈ own.map (·.2))
    (hb : ∀ (s : Shared) (H : Hp) (C : Addr) (cl : List (Str × Addr)) (fp : List Addr), (PG (X.blk s H sc (compEnvC sc cl C X.env) fp) tg g ∧ PTs (X.blk s H sc (compEnvC sc cl C X.env) fp) ifs tt) ∧ (PI (X.blk s H sc (compEnvC sc cl C X.env) fp) tg1 iter1 wi1 ∧ PG (X.blk s H sc (compEnvC sc cl C X.env) fp) tg1 g1 ∧ PTs (X.blk s H sc (compEnvC sc cl C X.env) fp) ifs1 tt1) ∧ PE (X.blk s H sc (compEnvC sc cl C X.env) fp) elt te)
    (hs : ∀ x, foldedSetIterable iter X.env x = pure x := by intro _; rfl) (hs1 : ∀ env x, foldedSetIterable iter1 env x = pure x := by intro _ _; rfl) :
    PE X (Sc2 elt tg iter tg1 iter1 ifs ifs1 sc pos) (tSc2 X.w wi g tt wi1 g1 tt1 te (own.map (·.2)) vs1) := by
  refine ⟨fun pins s σ H Q I h => ?_⟩
  have hfree : ∀ y ∈ sc.names, y.2 = .free → ∃ c, X.env.cells.lookup y.1 = some c := fun y hy e => (ok.free y hy e).elim (fun z => I.ok.has _ (.inl z)) fun z => I.ok.has _ (.inr z)
  rw [PpSet.eval_SetComp]
  refine wpAny_comprehension_free (use := none) rfl hs (closure_ok hfree) ok.kind (fun y hy e => by rw [ok.uniq y hy, e]) (thn (hi.run pins s σ H _ I h) fun xv s1 hxs => thn hxs fun itv s2 h2 => ?_)
  obtain ⟨it, fp, tn, J, H2, rfl, I2, T, be2, f2, q⟩ := h2
  refine PpSet.newSet_ok (newEnv_comp ?_)
  generalize hD : s2.heap.objs.size = D
  have freeD : H2 D = none := I2.hok.fresh (Nat.le_of_eq hD)
  obtain ⟨W, ⟨m0, w0⟩, tick⟩ := q D freeD
  show codeAny _ _ (.compStart (Sc2 elt tg iter tg1 iter1 ifs ifs1 sc pos) 0 (.ref it) (.ref D) (compEnvC sc (cellsFrom ((withSet X.w s2).heap.objs.size + 1) sc.names (cloFrom X.env.cells sc.names [])) (withSet X.w s2).heap.objs.size X.env)) (compPost (model X.prog X.w) X.A X.xe none (EP X pins σ Q) (.ref D) (withSet X.w s2).heap.objs.size) { (withSet X.w s2) with heap := pushCells ((withSet X.w s2).heap.push { cls := .type "dict", data := .dict #[] }) sc.names }
  generalize hs3 : withSet X.w s2 = s3
  have h3 : s3.heap = s2.heap.push (noneSet X.w) := by rw [← hs3]
  have I3 : Inv X pins σ (upd H2 D (set0 X.w D)) s3 := by
    subst hs3 hD
    exact I2.laid (t' := s2.toks) (fun b o e => Heap.get?_push_of_some _ e) (Nat.le_refl _) (setO_new (setR_fresh X.w))
  have f3 : ∀ b ∈ fp, FpOk X pins (upd H2 D (set0 X.w D)) b ∧ b < s3.heap.objs.size := fun b hb => by
    obtain ⟨o, e, _⟩ := T.obj _ _ be2 b hb
    have lt := Heap.lt_size e
    exact ⟨⟨by rw [upd_ne (by rw [← hD]; exact Nat.ne_of_lt lt)]; exact (f2 b hb).1, (f2 b hb).2⟩, by rw [h3, Heap.size_push]; exact Nat.lt_succ_of_lt lt⟩
  have J4 := block_start I3 ok hN f3
  obtain ⟨⟨pg, pt⟩, ⟨pi1, pg1, pt1⟩, pe⟩ := hb s3 (upd H2 D (set0 X.w D)) s3.heap.objs.size (cellsFrom (s3.heap.objs.size + 1) sc.names (cloFrom X.env.cells sc.names [])) fp
  have no3 : ∀ b ∈ fp, (upd H2 D (set0 X.w D)) b = none := fun b hb => (f3 b hb).1.1
  have be3 : tn 0 s3.heap := T.keep _ _ _ be2 fun b _ o e => by rw [h3]; exact Heap.get?_push_of_some _ e
  generalize hce : compEnvC sc (cellsFrom (s3.heap.objs.size + 1) sc.names (cloFrom X.env.cells sc.names [])) s3.heap.objs.size X.env = ce at J4 pg pt pe pi1 pg1 pt1 ⊢
  have loc : ce.locals = s3.heap.objs.size := by subst hce; rfl
  generalize hH3 : upd H2 D (set0 X.w D) = H3 at I3 J4 pg pt pe pi1 pg1 pt1 w0 no3 f3
  generalize hs4 : ({ s3 with heap := pushCells (s3.heap.push { cls := .type "dict", data := .dict #[] }) sc.names } : Shared) = s4 at J4 ⊢
  have be4 : tn 0 s4.heap := T.keep _ _ _ be3 fun b _ o e => by subst hs4; exact pushCells_keeps _ _ _ _ (Heap.get?_push_of_some _ e)
  have free1 : ∀ {τ : L2.St} {G : Hp} {u : Shared}, Inv (X.blk s3 H3 sc ce fp) [] τ G u → (∀ b ∈ fp, G b = none) → ∀ b ∈ fp, FpOk (X.blk s3 H3 sc ce fp) [] G b := fun {τ G u} I' hn b hb =>
    ⟨hn b hb, (I'.ok.exf b hb).1, I'.ok.exfs b hb, .inl hb, fun x c e => (I'.ok.exf b hb).2 x c e, fun p hp => by simp at hp⟩
  /- the state between two turns of the first loop -/
  let At : Nat → Shared → Prop := fun n u => ∃ i G, Inv (X.blk s3 H3 sc ce fp) [] (wipe σ (own.map (·.2))) G u ∧ tn i u.heap ∧ (∀ b ∈ fp, G b = none) ∧ W i n G
  refine startS (.inl rfl) ?loop (T.self X.A 0 _ _ _ be4 ?loop)
  case loop =>
    refine loopS_out (hs1 ce) At ?_ m0 ⟨0, H3, J4, be4, no3, w0⟩
    rintro n s5 ⟨i, H5, I5, be5, n5, wd5⟩
    rcases tick i n H5 wd5 with ⟨stop, qq⟩ | ⟨go, Nx, hNx, step⟩
    · refine thnF (T.done (X.blk s3 H3 sc ce fp) rfl rfl rfl hc i [] s5 _ H5 (fun _ _ => False) I5 (free1 I5 n5) be5 stop) fun r s6 ⟨hr, I6⟩ => ?_
      subst hr
      have J7 : Inv X pins σ H5 s6 := I3.call' (ch := fp) I6.os I6.base I6.hok I6.bare fun b hb => ⟨(f3 b hb).1.2.2.2.1, (f3 b hb).1.2.1, (f3 b hb).1.2.2.2.2.1, (f3 b hb).1.2.2.2.2.2⟩
      have gone : H5 s3.heap.objs.size = none := loc ▸ (I6.free : H5 ce.locals = none)
      obtain ⟨m, hm, _⟩ := I6.loc
      obtain ⟨g0, g1', g2, g3, g4, g5⟩ := I3.fpOk (Nat.le_refl _) gone
      exact ⟨m, loc ▸ (hm : s6.heap.Ns ce.locals m), fun h'' sb => ⟨.ref D, H5, J7.turned (t' := s6.toks) (fun b o hb e => (sb.2 b hb).trans e) g0 g1' g3 g4 g5, rfl, qq⟩⟩
    · refine thnF (T.item (X.blk s3 H3 sc ce fp) rfl rfl rfl hc i [] s5 _ H5 (fun _ _ => False) I5 (free1 I5 n5) be5 go) fun r s6 ⟨u, hr, h6⟩ => ?_
      subst hr
      refine thnF h6 fun _ s7 ⟨x, H7, I7, r7, y7, be7, n7⟩ => thnF (pg.run _ s7 _ H7 x u _ (I7.pinned (free1 I7 n7) (T.obj _ _ be7)) r7 (step x H7 y7)) fun _ s8 ⟨σ8, H8, I8, hw8, q8⟩ => thnF (pt.run _ s8 σ8 H8 _ I8 q8) fun b s9 ⟨H9, I9, q9⟩ => ?_
      have back : ∀ {τ : L2.St} {u : Shared} {G : Hp}, Inv (X.blk s3 H3 sc ce fp) ([] ++ pinsAt fp s7.heap) τ G u → (wipe σ (own.map (·.2))).length = τ.length → (∀ (j : Nat) v, (wipe σ (own.map (·.2)))[j]? = some (some v) → τ[j]? = some (some v)) → Nx G → ∃ m, m < n ∧ At m u := fun {τ u G} I' hl hk nx => by
        obtain ⟨m', hm, w'⟩ := hNx G nx
        have pin : ∀ b ∈ fp, ∀ o, s7.heap.get? b = some o → u.heap.get? b = some o ∧ G b = none := fun b hb o e => ⟨(I'.pin (b, o) (List.mem_append_right _ (List.mem_append_right _ (mem_pinsAt hb e)))).1, (I'.pin (b, o) (List.mem_append_right _ (List.mem_append_right _ (mem_pinsAt hb e)))).2.1⟩
        refine ⟨m', hm, i + 1, G, (I'.unpinned (pins := [])).weak hl hk, T.keep _ _ _ be7 fun b hb o e => (pin b hb o e).1, fun b hb => ?_, w'⟩
        obtain ⟨o, e, _⟩ := T.obj _ _ be7 b hb
        exact (pin b hb o e).2
      have l8 : (wipe σ (own.map (·.2))).length = σ8.length := by rw [← hw8, wipe_length]
      have k8 : ∀ (j : Nat) v, (wipe σ (own.map (·.2)))[j]? = some (some v) → σ8[j]? = some (some v) := fun j v e => (wipe_some (hw8 ▸ e)).1
      have k9 : ∀ (j : Nat) v, (wipe σ (own.map (·.2)))[j]? = some (some v) → (wipe σ8 vs1)[j]? = some (some v) := fun j v e => by
        obtain ⟨e1, out2⟩ := wipe_some (hw8 ▸ e)
        rw [wipe_out fun z => out2 (hv j z)]
        exact e1
      match b, q9 with
      | false, q9 =>
        show ∃ m, m < n ∧ At m s9
        exact back I9 l8 k8 q9
      | true, q9 =>
        refine thnF (pi1.run _ s9 σ8 H9 _ I9 q9) fun xv s10 hxs => thnF hxs fun itv s11 h11 => ?_
        obtain ⟨it1, fp1, tn1, J1, H11, rfl, I11, T1, be11, f11, W1, ⟨m1, w1⟩, tick1⟩ := h11
        have free2 : ∀ {G : Hp}, (∀ b ∈ fp1, G b = none) → ∀ b ∈ fp1, FpOk (X.blk s3 H3 sc ce fp) ([] ++ pinsAt fp s7.heap) G b := fun hn b hb => ⟨hn b hb, (f11 b hb).2⟩
        let At1 : Nat → Shared → Prop := fun k u => ∃ j G, Inv (X.blk s3 H3 sc ce fp) ([] ++ pinsAt fp s7.heap) (wipe σ8 vs1) G u ∧ tn1 j u.heap ∧ (∀ b ∈ fp1, G b = none) ∧ W1 j k G
        refine startS (.inr rfl) ?inner (T1.self X.A 0 _ _ _ be11 ?inner)
        case inner =>
          refine loopS_in At1 ?_ m1 ⟨0, H11, I11.weak (wipe_length _ _) (fun j v e => (wipe_some e).1), be11, fun b hb => (f11 b hb).1, w1⟩
          rintro k s12 ⟨j, H12, I12, be12, n12, wd12⟩
          rcases tick1 j k H12 wd12 with ⟨stop1, nx1⟩ | ⟨go1, Nx1, hNx1, step1⟩
          · refine thnF (T1.done (X.blk s3 H3 sc ce fp) rfl rfl rfl hc j _ s12 (wipe σ8 vs1) H12 (fun _ _ => False) I12 (free2 n12) be12 stop1) fun r s13 ⟨hr, I13⟩ => ?_
            subst hr
            exact back I13 (l8.trans (wipe_length σ8 vs1).symm) k9 nx1
          · refine thnF (T1.item (X.blk s3 H3 sc ce fp) rfl rfl rfl hc j _ s12 (wipe σ8 vs1) H12 (fun _ _ => False) I12 (free2 n12) be12 go1) fun r s13 ⟨u1, hr, h13⟩ => ?_
            subst hr
            refine thnF h13 fun _ s14 ⟨x1, H14, I14, r14, y14, be14, n14⟩ => thnF (pg1.run _ s14 (wipe σ8 vs1) H14 x1 u1 _ (I14.pinned (free2 n14) (T1.obj _ _ be14)) r14 (step1 x1 H14 y14)) fun _ s15 ⟨σ15, H15, I15, hw15, q15⟩ => thnF (pt1.run _ s15 σ15 H15 _ I15 q15) fun b1 s16 ⟨H16, I16, q16⟩ => ?_
            have back1 : ∀ {u : Shared} {G : Hp}, Inv (X.blk s3 H3 sc ce fp) (([] ++ pinsAt fp s7.heap) ++ pinsAt fp1 s14.heap) σ15 G u → Nx1 G → ∃ m, m < k ∧ At1 m u := fun {u G} I' nx => by
              obtain ⟨m', hm, w'⟩ := hNx1 G nx
              have pin : ∀ b ∈ fp1, ∀ o, s14.heap.get? b = some o → u.heap.get? b = some o ∧ G b = none := fun b hb o e => ⟨(I'.pin (b, o) (List.mem_append_right _ (List.mem_append_right _ (mem_pinsAt hb e)))).1, (I'.pin (b, o) (List.mem_append_right _ (List.mem_append_right _ (mem_pinsAt hb e)))).2.1⟩
              refine ⟨m', hm, j + 1, G, I'.unpinned.weak (by rw [← hw15, wipe_length]) (fun j v e => (wipe_some (hw15 ▸ e)).1), T1.keep _ _ _ be14 fun b hb o e => (pin b hb o e).1, fun b hb => ?_, w'⟩
              obtain ⟨o, e, _⟩ := T1.obj _ _ be14 b hb
              exact (pin b hb o e).2
            match b1, q16 with
            | false, q16 =>
              show ∃ m, m < k ∧ At1 m s16
              exact back1 I16 q16
            | true, q16 =>
              refine thnF (pe.run _ s16 σ15 H16 _ I16 q16) fun z s17 ⟨yv, H17, I17, r17, c, S0, n0, ey, hD17, room, nx⟩ => ?_
              subst ey
              exact add_int (X := X.blk s3 H3 sc ce fp) I17 hD17 room r17 fun s18 I18 => back1 I18 nx
end
end Tc
/-! name = {dict comprehension}; tuple(list) as a tuple without a dict of its own; dict(tuple of pairs) -/
namespace Tc
open PySem PySem.Spec PyProof.Rows L2
section
variable {X : Cx}
theorem ps_setDc {i : Nat} {y : Str} {py : Pos} {kx vx tg iter : Expr} {ifs : List Expr} {scope : Scope} {own : List (Str × Nat)} {pos spos : Pos} {wi : TI} {g : TG} {tt : TT} {tk tv : TE} (hc : X.calm = true) (hN : X.N.Nodup) (hy : X.N[i]? = some y) (hyl : X.env.scope.names.lookup y = some .local)
    (hsw : swapsWith (.DictComp kx vx [⟨tg, iter, ifs, 0⟩] scope pos) (some (.Name y py)) spos.line X.env = pure true) (hi : PI X tg iter wi) (ok : BlkOk X.N X.env.scope scope own)
    (hb : ∀ (s : Shared) (H : Hp) (C : Addr) (cl : List (Str × Addr)) (fp : List Addr), PG (X.blk s H scope (compEnvC scope cl C X.env) fp) tg g ∧ PTs (X.blk s H scope (compEnvC scope cl C X.env) fp) ifs tt ∧ PE (X.blk s H scope (compEnvC scope cl C X.env) fp) kx tk ∧ PE (X.blk s H scope (compEnvC scope cl C X.env) fp) vx tv)
    (hs : ∀ x, foldedSetIterable iter X.env x = pure x := by intro _; rfl) :
    PS X (.Assign [.Name y py] (.DictComp kx vx [⟨tg, iter, ifs, 0⟩] scope pos) spos) (tAsg (tDc wi g tt tk tv (own.map (·.2))) (gName i)) := by
  refine ⟨fun pins s σ H D I hyp => (exec_Assign_Name_used _ _ _ _ hsw).symm ▸ wpAny_bind (wpAny_standAt (wpAny_bind ?_))⟩
  have made : tDc wi g tt tk tv (own.map (·.2)) σ H (fun x H1 => gName i x σ H1 D.nx) := hyp
  show wpAny _ X.A (comprehension (.DictComp kx vx [⟨tg, iter, ifs, 0⟩] scope pos) scope X.env (firstIterPos [⟨tg, iter, ifs, 0⟩] pos) newDict false (eval iter X.env) (some (assign (.Name y py) X.env)) >>= _) _ _ s
  refine wpAny_bind (thn (dc_core (Qf := fun _ s' => SP X pins D .next s') hc hN I hi ok (fun s H C cl fp => (hb s H C cl fp).1) (fun s H C cl fp => (hb s H C cl fp).2.1) (fun s H C cl fp => (hb s H C cl fp).2.2.1) (fun s H C cl fp => (hb s H C cl fp).2.2.2) hs made fun L C t m G J q ns ⟨g0, g1, g2, g3, g4, g5⟩ => ?_) fun _ t done => wpAny_pure (wpAny_pure done))
  /- the name is stored while the comprehension's frame still stands -/
  refine (show wpAny _ _ (assign (.Name y py) X.env (.ref L)) _ _ _ from wpAny_assign_Name (store_ok2 (v := V.ref L) J hN hy (.inl hyl) rfl (fun t2 J2 ⟨c, but, at_⟩ => ?_) (.inr hyl)))
  have apart : C ≠ c := at_.elim (fun z => z ▸ g1) fun z e => g4 y c z e.symm
  exact ⟨m, ns.sameBut but apart, fun _ but3 => ⟨_, G, J2.turned (t' := t2.toks) (fun x o n e => (but3.2 x n).trans e) g0 g1 g3 g4 g5, q⟩⟩
theorem sw_trueD {kx vx : Expr} {gs : List Comprehension} {scope : Scope} {pos py : Pos} {y : Str} {l : Nat} {env : Env} (hk : env.scope.kind = .function) (hy : env.scope.names.lookup y = some .local) (hl : (py.line == pos.line) = true)
    (ha : (scope.names.any fun (n, k) => n == y && (k == .local || k == .cell)) = false) : swapsWith (.DictComp kx vx gs scope pos) (some (.Name y py)) l env = pure true := by
  have kind : env.kindOf y = some .local ∧ env.blockKind = .function := ⟨hy, by simp only [Env.blockKind, hk]; rfl⟩
  simp only [swapsWith, kind, ha, hl, Expr.pos]
  rfl
/-- a tuple that is known to have no dict of its own -/
def PT (H : Hp) (a : Addr) (xs : List V) : Prop := ∃ o : Obj, H a = some (.frz o (.tup xs)) ∧ o.dict = none
theorem PT.same {H H' : Hp} {a : Addr} {xs : List V} (h : PT H a xs) (e : Same H H') : PT H' a xs := let ⟨o, x, d⟩ := h; ⟨o, e a _ x, d⟩
theorem PT.st {K : PySem.W.Frag} {H : Hp} {a : Addr} {xs : List V} (h : PT H a xs) : SqT K H a xs := let ⟨o, x, _⟩ := h; .inl (.inr ⟨o, x⟩)
/-- tuple(list) -/
def rTupP (K : PySem.W.Frag) : List V → Hp → VK → Prop := fun xs H Q => ∃ (p : Addr) (ys : List V), xs = [.ref p] ∧ SqL K H p ys ∧ ∀ (l : Addr) (o : Obj), H l = none → o.dict = none → Q (.ref l) (upd H l (.frz o (.tup ys)))
theorem cr_tupP : CallR X (.type "tuple") (rTupP X.K) := by
  intro pins s σ H xs us Q I r ⟨p, ys, e0, hs, fin⟩
  subst e0
  rw [Vals.ref1 r]
  have ⟨its, rv, pl, size⟩ := I.list hs
  refine call_tuple_list pl.isList (fun g keep => ?_) (by rw [List.size_toArray, ← rv.length]; exact size)
  have kept := I.kept (h' := g) (t' := s.toks) keep
  refine ⟨.ref g.objs.size, _, ?_, rfl, fin _ { cls := .type "tuple", data := .seq its.toArray } (kept.hok.fresh (Nat.le_refl _)) rfl⟩
  exact kept.laid (t' := s.toks) (fun b o e => Heap.get?_push_of_some _ e) (Nat.le_refl _) (show ObjOk X.prog X.w _ _ _ (.frz _ (.tup ys)) from ⟨Heap.get?_push_size _ rfl, size, its, rv, IsTup.new _ _⟩)
/-- dict(tuple of pairs) -/
def rDictT (K : PySem.W.Frag) : List V → Hp → VK → Prop := fun xs H Q => ∃ (a : Addr) (ps : List Addr) (kvs : List (Key × V)), xs = [.ref a] ∧ PT H a (ps.map V.ref) ∧ Paired (fun p kv => SqT K H p [kV kv.1, kv.2]) ps kvs ∧
    ∀ p, H p = none → Q (.ref p) (upd H p (.dK (mergeK [] kvs)))
theorem cr_dictT (hcalm : X.calm = true) : CallR X (.type "dict") (rDictT X.K) := by
  intro pins s σ H xs us Q I r ⟨a, ps, kvs, e0, ⟨o, ho, hdn⟩, hp, q⟩
  subst e0
  rw [Vals.ref1 r]
  obtain ⟨hg, hz, its, rv, o', hg', hcl, n, hdat⟩ := (show ObjOk X.prog X.w H s.heap a (.frz o (.tup (ps.map V.ref))) from I.hok a _ ho)
  obtain rfl : o = o' := Option.some.inj (hg.symm.trans hg')
  have ei := refs_at rv
  subst ei
  rw [List.length_map] at hz
  have ⟨prs, rel, hl, hpr⟩ := pairs_of I hp
  have key : ∃ qs : List (Value × Value), qs.length = prs.length ∧ ∀ (j : Nat) (k v : Value), qs[j]? = some (k, v) → ∃ q, prs[j]? = some q ∧ q.2 = v ∧ ∃ b, ps[j]? = some b ∧ IsTup s.heap b #[k, v] ∧ keyIs q.1 k = true := by
    clear q rel
    have : ∀ (n : Nat), n ≤ prs.length → ∃ qs : List (Value × Value), qs.length = n ∧ ∀ (j : Nat) (k v : Value), qs[j]? = some (k, v) → ∃ q, prs[j]? = some q ∧ q.2 = v ∧ ∃ b, ps[j]? = some b ∧ IsTup s.heap b #[k, v] ∧ keyIs q.1 k = true := by
      intro n
      induction n with
      | zero => exact fun _ => ⟨[], rfl, fun j k v e => by simp at e⟩
      | succ n ih =>
        intro hn
        obtain ⟨qs, l1, h1⟩ := ih (by omega)
        obtain ⟨b, u, e1, e2, e3⟩ := hpr n prs[n] (by simp)
        refine ⟨qs ++ [(u, prs[n].2)], by simp [l1], fun j k v e => ?_⟩
        by_cases hj : j < qs.length
        · rw [List.getElem?_append_left hj] at e
          exact h1 j k v e
        · rw [List.getElem?_append_right (by omega)] at e
          have hj0 : j - qs.length = 0 := by
            rcases Nat.eq_zero_or_pos (j - qs.length) with z | z
            · exact z
            · rw [List.getElem?_eq_none (by simp; omega)] at e
              cases e
          rw [hj0] at e
          have ej : j = n := by omega
          subst ej
          simp only [List.getElem?_cons_zero, Option.some.injEq, Prod.mk.injEq] at e
          obtain ⟨rfl, rfl⟩ := e
          exact ⟨prs[j], by simp, rfl, b, e1, e2, e3⟩
    exact this _ (Nat.le_refl _)
  obtain ⟨qs, lq, hqs⟩ := key
  refine PySem.call_dict_pairs (knd := mixKind X.prog X.w) (kvs := prs) (PairArg.tuple a (ps.map Value.ref).toArray (fun j => ps.getD j 0) qs) (I.ok.hd hcalm) ⟨⟨o, n, hg, hcl, hdn, hdat⟩, by simp [lq, hl], fun j k v e => ?_⟩ ⟨lq.symm, fun j k v e => ?_⟩ (by rw [lq, hl]; exact hz) fun h' tk hd' k => ?_
  · obtain ⟨q', e1, e2, b, e3, e4, e5⟩ := hqs j k v e
    have eb : ps.getD j 0 = b := by rw [List.getD_eq_getElem?_getD, e3]; rfl
    refine ⟨by simp [e3], .inl ?_⟩
    show s.heap.IsTuple (ps.getD j 0) _
    rw [eb]
    exact e4
  · obtain ⟨q', e1, e2, b, e3, e4, e5⟩ := hqs j k v e
    exact ⟨q'.1, by rw [e1, ← e2], e5⟩
  · have few : (mergeK [] kvs).length ≤ sizeLine := Nat.le_trans (length_mergeK kvs []) (by simpa [rel.length, hl] using hz)
    refine ⟨.ref s.heap.objs.size, upd H s.heap.objs.size (.dK (mergeK [] kvs)), ?_, rfl, q _ (I.hok.fresh (Nat.le_refl _))⟩
    exact I.laid (t' := tk) (fun b o e => k b o (by simp) e) (Nat.le_refl _) (show ObjOk X.prog X.w _ _ _ (.dK (mergeK [] kvs)) from ⟨few, beq_eq_false_iff_ne.mpr (Nat.ne_of_gt I.big), merged [] prs, KV.merge rel .nil, hd'⟩)
end
end Tc
/-! a dict of worths by keys, and what changes do to it -/
namespace Tc
open PySem PySem.Spec PyProof.Rows L2
def fset (f : Int → Option Int) (k : Int) (o : Option Int) : Int → Option Int := fun j => if j = k then o else f j
def appl (f : Int → Option Int) (cs : List (Int × Option Int)) : Int → Option Int := cs.foldl (fun f c => fset f c.1 c.2) f
theorem appl_app (f : Int → Option Int) (a b : List (Int × Option Int)) : appl f (a ++ b) = appl (appl f a) b := by
  unfold appl
  rw [List.foldl_append]
/-- keys that are not told stay -/
theorem appl_out : ∀ (cs : List (Int × Option Int)) (f : Int → Option Int) (k : Int), (∀ c ∈ cs, c.1 ≠ k) → appl f cs k = f k
  | [], _, _, _ => rfl
  | c :: cs, f, k, h => by
    show appl (fset f c.1 c.2) cs k = f k
    rw [appl_out cs _ k fun c' m => h c' (List.mem_cons_of_mem _ m)]
    exact if_neg fun e => h c List.mem_cons_self e.symm
/-- keys that are told don't hang on what was ahead -/
theorem appl_in : ∀ (cs : List (Int × Option Int)) (f g : Int → Option Int) (k : Int), (∃ c ∈ cs, c.1 = k) ∨ f k = g k → appl f cs k = appl g cs k
  | [], _, _, _, h => by
    rcases h with ⟨c, m, _⟩ | h
    · cases m
    · exact h
  | c :: cs, f, g, k, h => by
    show appl (fset f c.1 c.2) cs k = appl (fset g c.1 c.2) cs k
    refine appl_in cs _ _ k ?_
    by_cases e : k = c.1
    · right
      unfold fset
      rw [if_pos e, if_pos e]
    · rcases h with ⟨c', m, e'⟩ | h
      · rcases List.mem_cons.mp m with z | m
        · subst z
          exact absurd e'.symm e
        · exact .inl ⟨c', m, e'⟩
      · right
        unfold fset
        rw [if_neg e, if_neg e]
        exact h
structure DI (ks : List Int) (kvs : List (Key × V)) (f : Int → Option Int) : Prop where
  nd : (kvs.map (·.1)).Nodup
  inn : ∀ p ∈ kvs, ∃ k ∈ ks, p.1 = Sum.inl k
  val : ∀ k, valV kvs (Sum.inl k) = (f k).map V.int
theorem DI.nil {ks : List Int} : DI ks [] fun _ => none := ⟨List.nodup_nil, fun p m => (by cases m), fun k => rfl⟩
theorem valV_drop {k j : Key} : ∀ kvs : List (Key × V), valV (dropK kvs k) j = if j = k then none else valV kvs j
  | [] => by
    show valV [] j = _
    rw [valV_nil]
    split <;> rfl
  | p :: r => by
    by_cases e : p.1 = k
    · rw [dropK_pos e, valV_drop r]
      by_cases h : j = k
      · rw [if_pos h, if_pos h]
      · rw [if_neg h, if_neg h, valV_neg fun z => h (z.symm.trans e)]
    · rw [dropK_neg e]
      by_cases h : p.1 = j
      · rw [valV_pos h, valV_pos h, if_neg fun z => e (h.trans z)]
      · rw [valV_neg h, valV_neg h, valV_drop r]
theorem mem_putK {kvs : List (Key × V)} {k : Key} {v : V} {p : Key × V} (h : p ∈ putK kvs k v) : p.1 = k ∨ ∃ q ∈ kvs, q.1 = p.1 := by
  unfold putK at h
  split at h
  · obtain ⟨q, m, rfl⟩ := List.mem_map.mp h
    refine .inr ⟨q, m, ?_⟩
    split <;> rfl
  · rcases List.mem_append.mp h with h | h
    · exact .inr ⟨p, h, rfl⟩
    · rw [List.mem_singleton.mp h]
      exact .inl rfl
theorem putK_old {kvs : List (Key × V)} {k : Key} {v : V} (h : (valV kvs k).isSome = true) : (putK kvs k v).map (·.1) = kvs.map (·.1) := by
  unfold putK
  rw [if_pos (by rw [valV_any]; exact h), List.map_map]
  refine List.map_congr_left fun p _ => ?_
  show (if p.1 = k then (p.1, v) else p).1 = p.1
  split <;> rfl
section
variable {ks : List Int} {kvs : List (Key × V)} {f : Int → Option Int} {k : Int} {w : Int}
theorem DI.put (h : DI ks kvs f) (hk : k ∈ ks) : DI ks (putK kvs (.inl k) (.int w)) (fset f k (some w)) := by
  refine ⟨?_, fun p m => ?_, fun j => ?_⟩
  · cases e : valV kvs (.inl k) with
    | none => exact nd_putK _ h.nd e
    | some v => rw [putK_old (by rw [e]; rfl)]; exact h.nd
  · rcases mem_putK m with e | ⟨q, m, e⟩
    · exact ⟨k, hk, e⟩
    · obtain ⟨j, hj, e'⟩ := h.inn q m
      exact ⟨j, hj, e ▸ e'⟩
  · rw [valV_put, h.val]
    unfold fset
    by_cases e : j = k
    · rw [if_pos e, if_pos (by rw [e])]
      rfl
    · rw [if_neg e, if_neg fun z => e (Sum.inl.inj z)]
theorem DI.drop (h : DI ks kvs f) : DI ks (dropK kvs (.inl k)) (fset f k none) := by
  refine ⟨nd_dropK h.nd, fun p m => h.inn p (dropK_mem m), fun j => ?_⟩
  rw [valV_drop, h.val]
  unfold fset
  by_cases e : j = k
  · rw [if_pos e, if_pos (by rw [e])]
    rfl
  · rw [if_neg e, if_neg fun z => e (Sum.inl.inj z)]
theorem DI.gone (h : DI ks kvs f) (hk : f k = none) : DI ks kvs (fset f k none) := ⟨h.nd, h.inn, fun j => by
  rw [h.val]
  unfold fset
  by_cases e : j = k
  · rw [if_pos e, e, hk]
  · rw [if_neg e]⟩
end
theorem len_sub {α : Type} [DecidableEq α] : ∀ {l m : List α}, l.Nodup → (∀ x ∈ l, x ∈ m) → l.length ≤ m.length
  | [], _, _, _ => Nat.zero_le _
  | x :: l, m, hn, hs => by
    obtain ⟨h1, h2⟩ := List.nodup_cons.mp hn
    have hx : x ∈ m := hs x List.mem_cons_self
    have := len_sub (l := l) (m := m.erase x) h2 fun y hy => (List.mem_erase_of_ne (a := y) (b := x) fun (e : y = x) => h1 (e ▸ hy)).mpr (hs y (List.mem_cons_of_mem _ hy))
    rw [List.length_erase_of_mem hx] at this
    have hp := List.length_pos_of_mem hx
    rw [List.length_cons]
    omega
theorem inls : ∀ {l : List Key}, (∀ x ∈ l, ∃ k, x = Sum.inl k) → ∃ js : List Int, l = js.map Sum.inl
  | [], _ => ⟨[], rfl⟩
  | x :: l, h => by
    obtain ⟨k, rfl⟩ := h x List.mem_cons_self
    obtain ⟨js, rfl⟩ := inls fun y m => h y (List.mem_cons_of_mem _ m)
    exact ⟨k :: js, rfl⟩
theorem valV_memI {kvs : List (Key × V)} {k : Key} : k ∈ kvs.map (·.1) ↔ (valV kvs k).isSome = true := by
  rw [← valV_any, List.any_eq_true, List.mem_map]
  constructor
  · rintro ⟨p, m, e⟩
    exact ⟨p, m, decide_eq_true e⟩
  · rintro ⟨p, m, e⟩
    exact ⟨p, m, of_decide_eq_true e⟩
theorem DI.keys {ks : List Int} {kvs : List (Key × V)} {f : Int → Option Int} (h : DI ks kvs f) : ∃ js : List Int, kvs.map (·.1) = js.map Sum.inl ∧ js.Nodup ∧ (∀ k, k ∈ js ↔ (f k).isSome = true) ∧ js.length ≤ ks.length := by
  obtain ⟨js, e⟩ := inls (l := kvs.map (·.1)) fun x m => by
    obtain ⟨p, hp, rfl⟩ := List.mem_map.mp m
    obtain ⟨k, _, e⟩ := h.inn p hp
    exact ⟨k, e⟩
  have nd : js.Nodup := by
    have := h.nd
    rw [e] at this
    exact (List.pairwise_map.mp this).imp fun {a b} z e => z (congrArg _ e)
  have mem : ∀ k, k ∈ js ↔ (f k).isSome = true := fun k => by
    have := valV_memI (kvs := kvs) (k := .inl k)
    rw [e, h.val, Option.isSome_map] at this
    rw [← this, List.mem_map]
    constructor
    · exact fun m => ⟨k, m, rfl⟩
    · rintro ⟨j, m, z⟩
      cases z
      exact m
  refine ⟨js, e, nd, mem, len_sub nd fun x hx => ?_⟩
  have : (Sum.inl x : Key) ∈ kvs.map (·.1) := e ▸ List.mem_map.mpr ⟨x, hx, rfl⟩
  obtain ⟨p, hp, e'⟩ := List.mem_map.mp this
  obtain ⟨k, hk, e''⟩ := h.inn p hp
  cases (e'.symm.trans e'' : (Sum.inl x : Key) = Sum.inl k)
  exact hk
theorem DI.len {ks : List Int} {kvs : List (Key × V)} {f : Int → Option Int} (h : DI ks kvs f) : kvs.length ≤ ks.length := by
  obtain ⟨js, e, _, _, l⟩ := h.keys
  have := congrArg List.length e
  rw [List.length_map, List.length_map] at this
  omega
/-- the keys that have a worth, rising -/
def KeysOf (f : Int → Option Int) (js : List Int) : Prop := js.Pairwise (· < ·) ∧ ∀ k, k ∈ js ↔ (f k).isSome = true
theorem KeysOf.one {f : Int → Option Int} {a b : List Int} (h : KeysOf f a) (h' : KeysOf f b) : a = b := rising_one a b h.1 h'.1 fun k => (h.2 k).trans (h'.2 k).symm
theorem lt_of_le_nodup {js : List Int} (h : js.Pairwise (· ≤ ·)) (hn : js.Nodup) : js.Pairwise (· < ·) := by
  have : js.Pairwise fun a b => a ≤ b ∧ a ≠ b := List.Pairwise.and h hn
  exact this.imp fun {a b} z => by omega
/-- the rows of f -/
def rowsOf (f : Int → Option Int) (js : List Int) : List (Int × Int) := js.map fun k => (k, (f k).getD 0)
/-- what the rows make of nothing -/
def fRows (rs : List (Int × Int)) : Int → Option Int := appl (fun _ => none) (rs.map fun r => (r.1, some r.2))
theorem appl_rows (f : Int → Option Int) : ∀ (js : List Int) (g : Int → Option Int) (k : Int), (∀ k ∈ js, (f k).isSome = true) → appl g ((rowsOf f js).map fun r => (r.1, some r.2)) k = if k ∈ js then f k else g k
  | [], g, k, _ => by
    rw [if_neg (by simp)]
    rfl
  | j :: js, g, k, h => by
    show appl (fset g j (some ((f j).getD 0))) ((rowsOf f js).map fun r => (r.1, some r.2)) k = _
    rw [appl_rows f js _ k fun k m => h k (List.mem_cons_of_mem _ m)]
    by_cases m : k ∈ js
    · rw [if_pos m, if_pos (List.mem_cons_of_mem _ m)]
    · rw [if_neg m]
      unfold fset
      by_cases e : k = j
      · subst e
        rw [if_pos rfl, if_pos List.mem_cons_self]
        have := h k List.mem_cons_self
        cases hf : f k with
        | none => rw [hf] at this; cases this
        | some w => rfl
      · rw [if_neg e, if_neg fun z => (List.mem_cons.mp z).elim e m]
/-- the rows of f make f -/
theorem fRows_of {f : Int → Option Int} {js : List Int} (h : KeysOf f js) : fRows (rowsOf f js) = f := by
  funext k
  unfold fRows
  rw [appl_rows f js _ k fun k m => (h.2 k).mp m]
  by_cases m : k ∈ js
  · rw [if_pos m]
  · rw [if_neg m]
    cases e : f k with
    | none => rfl
    | some w => exact absurd ((h.2 k).mpr (by rw [e]; rfl)) m
end Tc
/-! changes, entries and logs as data; promises of what the program makes of them -/
namespace Tc
open PySem L2 Evl
def chD : PyData → Int × Option Int
  | .tuple [.str _, .int k] => (k, none)
  | .tuple [.str _, .int k, .int w] => (k, some w)
  | _ => (0, none)
def goodCh (ks : List Int) : PyData → Bool
  | .tuple [.str s, .int k] => decide (s = "drop") && decide (k ∈ ks)
  | .tuple [.str s, .int k, .int w] => decide (s = "put") && (decide (k ∈ ks) && decide (0 ≤ w ∧ w < 1000))
  | _ => false
def chsD : PyData → List PyData
  | .tuple [.str _, .tuple cs] => cs
  | _ => []
def goodEn (ks : List Int) : PyData → Bool
  | .tuple [.str s, .tuple cs] => decide (s = "group") && cs.all (goodCh ks)
  | .tuple [.str s, .int _, .int _] => !decide (s = "group") && PyData.strOk s
  | _ => false
def enD (d : PyData) : List (Int × Option Int) := (chsD d).map chD
def lgD (ds : List PyData) : List (Int × Option Int) := ds.flatMap enD
theorem lgD_app (a b : List PyData) : lgD (a ++ b) = lgD a ++ lgD b := List.flatMap_append
theorem lgD_snoc (a : List PyData) (d : PyData) : lgD (a ++ [d]) = lgD a ++ enD d := by
  rw [lgD_app]
  congr 1
  exact List.append_nil _
def pairD (r : Int × Int) : PyData := .tuple [.int r.1, .int r.2]
def rowsD (rs : List (Int × Int)) : PyData := .tuple (rs.map pairD)
section
variable {K : PySem.W.Frag} {H H' : Hp} {D : Addr} {kvs : List (Key × V)}
/-- all but the dict at D stays -/
def Bar (D : Addr) (H H' : Hp) : Prop := ∀ a o, a ≠ D → H a = some o → H' a = some o
theorem Bar.refl (D : Addr) (H : Hp) : Bar D H H := fun _ _ _ h => h
theorem Bar.trans {H1 H2 : Hp} (a : Bar D H H1) (b : Bar D H1 H2) : Bar D H H2 := fun x o n h => b x o n (a x o n h)
theorem Bar.ex (e : Ex H H') : Bar D H H' := fun x o _ h => e x o h
theorem Bar.put (e : Bar D H H') {o : HO} : Bar D H (upd H' D o) := fun x u n h => by
  rw [upd_ne n]
  exact e x u n h
theorem Bar.exOf {H0 : Hp} (e : Bar D H H') (h0 : Ex H0 H) (hD : H0 D = none) : Ex H0 H' := fun a o h => e a o (fun z => by
  subst z
  rw [hD] at h
  cases h) (h0 a o h)
theorem bar_rd {a : Addr} {u : HO} (hD : H D = some (.dK kvs)) (e : Bar D H H') (hu : ∀ kvs, u ≠ .dK kvs) (hf : ∀ o kvs', HO.frz o u ≠ .dK kvs') (h : Rd H a u) : Rd H' a u := by
  rcases h with h | ⟨o, h⟩
  · exact .inl (e a _ (fun z => by
      subst z
      rw [hD] at h
      exact hu _ (Option.some.inj h).symm) h)
  · exact .inr ⟨o, e a _ (fun z => by
      subst z
      rw [hD] at h
      cases h) h⟩
theorem bar_t {a : Addr} {xs : List V} (hD : H D = some (.dK kvs)) (e : Bar D H H') (h : SqT K H a xs) : SqT K H' a xs := by
  rcases h with h | h
  · exact .inl (bar_rd hD e (fun _ z => nomatch z) (fun _ _ z => nomatch z) h)
  · exact .inr h
theorem bar_l {a : Addr} {xs : List V} (hD : H D = some (.dK kvs)) (e : Bar D H H') (h : SqL K H a xs) : SqL K H' a xs := by
  rcases h with h | h
  · exact .inl (bar_rd hD e (fun _ z => nomatch z) (fun _ _ z => nomatch z) h)
  · exact .inr h
mutual
theorem dp_bar (hD : H D = some (.dK kvs)) (e : Bar D H H') : ∀ (d : PyData) (v : V), Dp K H v d → Dp K H' v d
  | _, _, .non => .non
  | _, _, .bl b => .bl b
  | _, _, .int i => .int i
  | _, _, .str x => .str x
  | _, _, .lst h r => .lst (bar_l hD e h) (dps_bar hD e _ _ r)
  | _, _, .tup h r => .tup (bar_t hD e h) (dps_bar hD e _ _ r)
theorem dps_bar (hD : H D = some (.dK kvs)) (e : Bar D H H') : ∀ (ds : List PyData) (vs : List V), DpAll K H vs ds → DpAll K H' vs ds
  | _, _, .nil => .nil
  | _, _, .cons h r => .cons (dp_bar hD e _ _ h) (dps_bar hD e _ _ r)
end
/-- a table told by the program: a tuple without a dict, of pairs -/
def TP (K : PySem.W.Frag) (H : Hp) (p : Addr) (rs : List (Int × Int)) : Prop := ∃ xs, PT H p xs ∧ DpAll K H xs (rs.map pairD)
theorem TP.same {p : Addr} {rs : List (Int × Int)} (h : TP K H p rs) (e : Same H H') : TP K H' p rs := let ⟨xs, a, b⟩ := h; ⟨xs, a.same e, dps_same e _ _ b⟩
theorem TP.dp {p : Addr} {rs : List (Int × Int)} (h : TP K H p rs) : Dp K H (.ref p) (rowsD rs) := let ⟨_, a, b⟩ := h; .tup a.st b
theorem pairs_dp : ∀ {rs : List (Int × Int)} {xs : List V}, DpAll K H xs (rs.map pairD) → ∃ ps : List Addr, xs = ps.map V.ref ∧ Paired (fun p (kv : Key × V) => SqT K H p [kV kv.1, kv.2]) ps (rs.map fun r => ((Sum.inl r.1 : Key), V.int r.2))
  | [], _, h => by
    cases h
    exact ⟨[], rfl, .nil⟩
  | r :: rs, xs, h => by
    rw [List.map_cons] at h
    cases h with
    | cons a t =>
      obtain ⟨ps, rfl, p⟩ := pairs_dp t
      unfold pairD at a
      cases a with
      | tup hs hh =>
        cases hh with
        | cons h1 t1 =>
          cases t1 with
          | cons h2 t2 =>
            cases t2
            cases h1
            cases h2
            exact ⟨_ :: ps, rfl, .cons hs p⟩
theorem merge_rows {ks : List Int} : ∀ (rs : List (Int × Int)) (kvs : List (Key × V)) (f : Int → Option Int), (∀ r ∈ rs, r.1 ∈ ks) → DI ks kvs f → DI ks (mergeK kvs (rs.map fun r => ((Sum.inl r.1 : Key), V.int r.2))) (appl f (rs.map fun r => (r.1, some r.2)))
  | [], _, _, _, h => h
  | r :: rs, kvs, f, hk, h => merge_rows rs (putK kvs (.inl r.1) (.int r.2)) (fset f r.1 (some r.2)) (fun r' m => hk r' (List.mem_cons_of_mem _ m)) (h.put (hk r List.mem_cons_self))
end
/-- the changes of an entry -/
def spChsOf (K : PySem.W.Frag) : Sp := fun vs H Q _ => ∃ (v : V) (d : PyData) (ks : List Int), vs = [v] ∧ Dp K H v d ∧ goodEn ks d = true ∧ ∀ (q : Addr) (us : List V) (H' : Hp), Ex H H' → SqT K H' q us → DpAll K H' us (chsD d) → Q (.ref q) H'
/-- a good log at l -/
structure LogAt (K : PySem.W.Frag) (H : Hp) (l : Addr) (ks : List Int) (ds : List PyData) : Prop where
  ex : ∃ us, SqL K H l us ∧ DpAll K H us ds
  good : ∀ d ∈ ds, goodEn ks d = true
theorem LogAt.same {K : PySem.W.Frag} {H H' : Hp} {l : Addr} {ks : List Int} {ds : List PyData} (h : LogAt K H l ks ds) (e : Same H H') : LogAt K H' l ks ds := ⟨let ⟨us, a, b⟩ := h.ex; ⟨us, Evl.ex_l e a, dps_same e _ _ b⟩, h.good⟩
/-- the entries from place lo up to place hi, done -/
def spCarry (K : PySem.W.Frag) : Sp := fun vs H Q _ => ∃ (D l : Addr) (ks : List Int) (kvs : List (Key × V)) (f : Int → Option Int) (ds : List PyData) (lo hi : Nat), vs = [.ref D, .ref l, .int (lo : Int), .int (hi : Int)] ∧ H D = some (.dK kvs) ∧ DI ks kvs f ∧ ks.length < 64 ∧ LogAt K H l ks ds ∧ lo ≤ hi ∧
  ∀ kvs' H', Bar D H H' → H' D = some (.dK kvs') → DI ks kvs' (appl f (lgD ((ds.drop lo).take (hi - lo)))) → Q .non H'
/-- the rows behind so many entries -/
def spRowsAt (K : PySem.W.Frag) : Sp := fun vs H Q _ => ∃ (v : V) (rs : List (Int × Int)) (l : Addr) (ks : List Int) (ds : List PyData) (n : Nat), vs = [v, .ref l, .int (n : Int)] ∧ Dp K H v (rowsD rs) ∧ (∀ r ∈ rs, r.1 ∈ ks) ∧ ks.length < 64 ∧ LogAt K H l ks ds ∧ n ≤ ds.length ∧
  ∀ D kvs H', H D = none → Ex H H' → H' D = some (.dK kvs) → DI ks kvs (appl (fRows rs) (lgD (ds.take n))) → Q (.ref D) H'
def spTabAt (K : PySem.W.Frag) : Sp := fun vs H Q _ => ∃ (v : V) (rs : List (Int × Int)) (l : Addr) (ks : List Int) (ds : List PyData) (n : Nat), vs = [v, .ref l, .int (n : Int)] ∧ Dp K H v (rowsD rs) ∧ (∀ r ∈ rs, r.1 ∈ ks) ∧ ks.length < 64 ∧ LogAt K H l ks ds ∧ n ≤ ds.length ∧
  ∀ p js H', H p = none → Ex H H' → KeysOf (appl (fRows rs) (lgD (ds.take n))) js → (∀ j ∈ js, j ∈ ks) → TP K H' p (rowsOf (appl (fRows rs) (lgD (ds.take n))) js) → Q (.ref p) H'
/-- a place that is one -/
def spPlace (K : PySem.W.Frag) : Sp := fun vs H Q _ => ∃ (l : Addr) (us : List V) (n : Nat), vs = [.ref l, .int (n : Int)] ∧ SqL K H l us ∧ n ≤ us.length ∧ ∀ H', Ex H H' → Q .non H'
/-- the keys told -/
def spChanged (K : PySem.W.Frag) : Sp := fun vs H Q _ => ∃ (l : Addr) (ks : List Int) (ds : List PyData) (lo hi : Nat), vs = [.ref l, .int (lo : Int), .int (hi : Int)] ∧ ks.length < 64 ∧ LogAt K H l ks ds ∧ lo ≤ hi ∧ hi ≤ ds.length ∧
  ∀ p (js : List Int) H', H p = none → Ex H H' → H' p = some (.lst (js.map V.int)) → js.Pairwise (· < ·) → (∀ k, k ∈ js ↔ ∃ c ∈ lgD ((ds.drop lo).take (hi - lo)), c.1 = k) → Q (.ref p) H'
end Tc
/-! tuples of leaves and tuples stay while a list is changed -/
namespace Tc
open PySem L2 Evl
def nl : Nat → PyData → Bool
  | _, .list _ => false
  | 0, .tuple _ => false
  | n + 1, .tuple ds => ds.all (nl n)
  | _, _ => true
section
variable {K : PySem.W.Frag} {H H' : Hp} {b : Addr} {bs : List V}
theorem lst_t {a : Addr} {xs : List V} (hb : H b = some (.lst bs)) (e : Bar b H H') (h : SqT K H a xs) : SqT K H' a xs := by
  rcases h with (h | ⟨o, h⟩) | h
  · exact .inl (.inl (e a _ (fun z => by
      subst z
      rw [hb] at h
      cases h) h))
  · exact .inl (.inr ⟨o, e a _ (fun z => by
      subst z
      rw [hb] at h
      cases h) h⟩)
  · exact .inr h
theorem lst_l {a : Addr} {xs : List V} (e : Bar b H H') (ha : a ≠ b) (h : SqL K H a xs) : SqL K H' a xs := by
  rcases h with (h | ⟨o, h⟩) | h
  · exact .inl (.inl (e a _ ha h))
  · exact .inl (.inr ⟨o, e a _ ha h⟩)
  · exact .inr h
theorem dps_each : ∀ {ds : List PyData} {vs : List V}, (∀ d ∈ ds, ∀ v, Dp K H v d → Dp K H' v d) → DpAll K H vs ds → DpAll K H' vs ds
  | _, _, _, .nil => .nil
  | _, _, f, .cons h t => .cons (f _ List.mem_cons_self _ h) (dps_each (fun d m => f d (List.mem_cons_of_mem _ m)) t)
theorem dp_nl (hb : H b = some (.lst bs)) (e : Bar b H H') : ∀ (n : Nat) (d : PyData) (v : V), nl n d = true → Dp K H v d → Dp K H' v d
  | 0, d, v, g, h => by
    cases h with
    | non => exact .non
    | bl b => exact .bl b
    | int i => exact .int i
    | str x => exact .str x
    | lst => cases g
    | tup => cases g
  | n + 1, d, v, g, h => by
    cases h with
    | non => exact .non
    | bl b => exact .bl b
    | int i => exact .int i
    | str x => exact .str x
    | lst => cases g
    | tup hs r => exact .tup (lst_t hb e hs) (dps_each (fun d m v => dp_nl hb e n d v (List.all_eq_true.mp g d m)) r)
theorem nl_rows (rs : List (Int × Int)) : nl 2 (rowsD rs) = true := by
  show (rs.map pairD).all (nl 1) = true
  rw [List.all_eq_true]
  intro d m
  obtain ⟨r, _, rfl⟩ := List.mem_map.mp m
  rfl
theorem nl_ch {ks : List Int} {d : PyData} (h : goodCh ks d = true) : nl 1 d = true := by
  unfold goodCh at h
  split at h
  · rfl
  · rfl
  · cases h
theorem nl_en {ks : List Int} {d : PyData} (h : goodEn ks d = true) : nl 3 d = true := by
  unfold goodEn at h
  split at h
  · rename_i s cs
    rw [Bool.and_eq_true, List.all_eq_true] at h
    show (nl 2 (.str s) && (nl 2 (.tuple cs) && true)) = true
    rw [show nl 2 (.tuple cs) = true from List.all_eq_true.mpr fun d m => nl_ch (h.2 d m)]
    rfl
  · rfl
  · cases h
theorem Fr.bar (f : Fr b H H') : Bar b H H' := fun a o n h => f.at h n
theorem LogAt.bar {l : Addr} {ks : List Int} {ds : List PyData} (h : LogAt K H l ks ds) (hb : H b = some (.lst bs)) (e : Bar b H H') (hl : l ≠ b) : LogAt K H' l ks ds :=
  ⟨let ⟨us, x, y⟩ := h.ex; ⟨us, lst_l e hl x, dps_each (fun d m v => dp_nl hb e 3 d v (nl_en (h.good d m))) y⟩, h.good⟩
theorem dp_rows {v : V} {rs : List (Int × Int)} (h : Dp K H v (rowsD rs)) (hb : H b = some (.lst bs)) (e : Bar b H H') : Dp K H' v (rowsD rs) := dp_nl hb e 2 _ v (nl_rows rs) h
theorem TP.bar {p : Addr} {rs : List (Int × Int)} (h : TP K H p rs) (hb : H b = some (.lst bs)) (e : Bar b H H') : TP K H' p rs := by
  obtain ⟨xs, ⟨o, a, d⟩, r⟩ := h
  exact ⟨xs, ⟨o, e p _ (fun z => by
    subst z
    rw [hb] at a
    cases a) a, d⟩, dps_each (fun d m v => dp_nl hb e 1 d v (by
      obtain ⟨r, _, rfl⟩ := List.mem_map.mp m
      rfl)) r⟩
theorem Bag.lst (h : Bag H b) : ∃ bs, H b = some (.lst bs) := let ⟨_, _, e, _⟩ := h; ⟨_, e⟩
end
/-- rows of a table drawn -/
def goodRow (ks : List Int) : PyData → Bool
  | .tuple [.int k, .int w] => decide (k ∈ ks) && decide (0 ≤ w ∧ w < 1000)
  | _ => false
theorem good_rows {ks : List Int} : ∀ {ds : List PyData}, (∀ d ∈ ds, goodRow ks d = true) → ∃ rs : List (Int × Int), ds = rs.map pairD ∧ (∀ r ∈ rs, r.1 ∈ ks) ∧ ∀ r ∈ rs, 0 ≤ r.2 ∧ r.2 < 1000
  | [], _ => ⟨[], rfl, fun r m => (by cases m), fun r m => by cases m⟩
  | d :: ds, h => by
    obtain ⟨rs, e, hr, hw⟩ := good_rows fun d' m => h d' (List.mem_cons_of_mem _ m)
    have hd := h d List.mem_cons_self
    unfold goodRow at hd
    split at hd
    · rename_i k w
      rw [Bool.and_eq_true] at hd
      refine ⟨(k, w) :: rs, by rw [e]; rfl, fun r m => ?_, fun r m => ?_⟩
      · rcases List.mem_cons.mp m with z | z
        · rw [z]
          exact of_decide_eq_true hd.1
        · exact hr r z
      · rcases List.mem_cons.mp m with z | z
        · rw [z]
          exact of_decide_eq_true hd.2
        · exact hw r z
    · cases hd
def spTabQ (K : PySem.W.Frag) : Sp := fun vs H Q _ => ∃ (b l : Addr) (ks : List Int), vs = [.ref b, .ref l] ∧ Bag H b ∧ KeysAt b H l ks ∧ ∀ v rs H', Fr b H H' → Dp K H' v (rowsD rs) → (∀ r ∈ rs, r.1 ∈ ks) → Q v H'
def spKeysQ : Sp := fun vs H Q _ => ∃ b : Addr, vs = [.ref b] ∧ Bag H b ∧ ∀ l (ks : List Int) H', Fr b H H' → KeysAt b H' l ks → ks.length < 64 → Q (.ref l) H'
/-- drawn changes, an entry, a log, their keys among ks -/
def spChsQ (K : PySem.W.Frag) : Sp := fun vs H Q _ => ∃ (b l : Addr) (ks : List Int) (m : Int) (S : Addr → Prop), vs = [.ref b, .ref l, .int m] ∧ Bag H b ∧ Sok S b H ∧ KeysAt b H l ks ∧ 1 ≤ m ∧ m ≤ 6 ∧
  ∀ v ds H', Fr b H H' → Dp K (cut S H') v (.tuple ds) → (∀ d ∈ ds, goodCh ks d = true) → Q v H'
def spEntQ (K : PySem.W.Frag) : Sp := fun vs H Q _ => ∃ (b l : Addr) (ks : List Int) (S : Addr → Prop), vs = [.ref b, .ref l] ∧ Bag H b ∧ Sok S b H ∧ KeysAt b H l ks ∧ ∀ v d H', Fr b H H' → Dp K (cut S H') v d → goodEn ks d = true → Q v H'
def spLgQ (K : PySem.W.Frag) : Sp := fun vs H Q _ => ∃ (b l : Addr) (ks : List Int) (m : Int), vs = [.ref b, .ref l, .int m] ∧ Bag H b ∧ KeysAt b H l ks ∧ 0 ≤ m ∧ m ≤ 100 ∧ ∀ p us ds H', H p = none → p ≠ b → Fr b H H' → H' p = some (.lst us) → DpAll K H' us ds → (∀ d ∈ ds, goodEn ks d = true) → (ds.length : Int) ≤ m → Q (.ref p) H'
theorem gq_drop {ks : List Int} {k : Int} (h : k ∈ ks) : goodCh ks (.tuple [.str "drop", .int k]) = true := by
  show (decide ((Str.ofString "drop") = "drop") && decide (k ∈ ks)) = true
  rw [decide_eq_true h]
  decide
theorem gq_put {ks : List Int} {k w : Int} (h : k ∈ ks) (hw : 0 ≤ w ∧ w < 1000) : goodCh ks (.tuple [.str "put", .int k, .int w]) = true := by
  show (decide ((Str.ofString "put") = "put") && (decide (k ∈ ks) && decide (0 ≤ w ∧ w < 1000))) = true
  rw [decide_eq_true h, decide_eq_true hw]
  decide
theorem gq_mark {ks : List Int} {s : Str} {i j : Int} (hs : s = "low" ∨ s = "high") : goodEn ks (.tuple [.str s, .int i, .int j]) = true := by
  show (!decide (s = "group") && PyData.strOk s) = true
  rcases hs with rfl | rfl <;> decide +kernel
theorem gq_group {ks : List Int} {ds : List PyData} (h : ∀ d ∈ ds, goodCh ks d = true) : goodEn ks (.tuple [.str "group", .tuple ds]) = true := by
  show (decide ((Str.ofString "group") = "group") && ds.all (goodCh ks)) = true
  rw [List.all_eq_true.mpr h]
  decide
end Tc
namespace Tc
open PySem L2 Evl
/-- no tuple stands at b -/
def NT (H : Hp) (b : Addr) : Prop := (∀ xs, H b ≠ some (.tup xs)) ∧ ∀ o u, H b ≠ some (.frz o u)
section
variable {K : PySem.W.Frag} {H H' : Hp} {b : Addr}
theorem NT.set {w : World} {S : Int → Bool} {n : Nat} (h : H b = some (SetO w b S n)) : NT H b := by
  refine ⟨fun xs e => ?_, fun o u e => ?_⟩ <;> · rw [h] at e
                                                 cases e
theorem nt_t {a : Addr} {xs : List V} (hb : NT H b) (e : Bar b H H') (h : SqT K H a xs) : SqT K H' a xs := by
  rcases h with (h | ⟨o, h⟩) | h
  · exact .inl (.inl (e a _ (fun z => hb.1 xs (z ▸ h)) h))
  · exact .inl (.inr ⟨o, e a _ (fun z => hb.2 o _ (z ▸ h)) h⟩)
  · exact .inr h
theorem dp_nt (hb : NT H b) (e : Bar b H H') : ∀ (n : Nat) (d : PyData) (v : V), nl n d = true → Dp K H v d → Dp K H' v d
  | 0, d, v, g, h => by
    cases h with
    | non => exact .non
    | bl b => exact .bl b
    | int i => exact .int i
    | str x => exact .str x
    | lst => cases g
    | tup => cases g
  | n + 1, d, v, g, h => by
    cases h with
    | non => exact .non
    | bl b => exact .bl b
    | int i => exact .int i
    | str x => exact .str x
    | lst => cases g
    | tup hs r => exact .tup (nt_t hb e hs) (dps_each (fun d m v => dp_nt hb e n d v (List.all_eq_true.mp g d m)) r)
/-- the turns of a clause, over whatever gives n items one by one and changes nothing by it -/
theorem sc_turns {J : It} {n : Nat} {H0 : Hp} {Z : Hp → Prop} {B : V → Hp → (Hp → Prop) → Prop} (Pv : Nat → Hp → Prop) (R : Nat → V → Prop) (h0 : Pv 0 H0) (go : ∀ i H, i < n → Pv i H → J.go i H ∧ ∀ x H', J.yld i H x H' → H' = H ∧ R i x) (stop : ∀ H, Pv n H → J.stop n H)
    (hs : ∀ i x H, R i x → Pv i H → B x H (Pv (i + 1))) (hd : ∀ H, Pv n H → Z H) :
    ∃ W : Nat → Nat → Hp → Prop, (∃ m, W 0 m H0) ∧ ∀ i m H, W i m H → (J.stop i H ∧ Z H) ∨ (J.go i H ∧ ∃ Nx : Hp → Prop, (∀ H', Nx H' → ∃ m', m' < m ∧ W (i + 1) m' H') ∧ ∀ x H', J.yld i H x H' → B x H' Nx) := by
  refine ⟨fun i m H => i + m = n ∧ Pv i H, ⟨n, Nat.zero_add n, h0⟩, fun i m H ⟨e, p⟩ => ?_⟩
  cases m with
  | zero =>
    obtain rfl : i = n := e
    exact .inl ⟨stop H p, hd H p⟩
  | succ m =>
    have ⟨g, y⟩ := go i H (by omega) p
    refine .inr ⟨g, Pv (i + 1), fun H' p' => ⟨m, Nat.lt_succ_self m, by omega, p'⟩, fun x H' yx => ?_⟩
    obtain ⟨rfl, r⟩ := y x H' yx
    exact hs i x _ r p
theorem sc_list {a : Addr} {xs : List V} {H0 : Hp} {Z : Hp → Prop} {B : V → Hp → (Hp → Prop) → Prop} (Pv : Nat → Hp → Prop) (h0 : Pv 0 H0) (hl : ∀ i H, i ≤ xs.length → Pv i H → SqL K H a xs) (hs : ∀ i x H, xs[i]? = some x → Pv i H → B x H (Pv (i + 1))) (hd : ∀ H, Pv xs.length H → Z H) :
    ∃ W : Nat → Nat → Hp → Prop, (∃ m, W 0 m H0) ∧ ∀ i m H, W i m H → ((Itl K a).stop i H ∧ Z H) ∨ ((Itl K a).go i H ∧ ∃ Nx : Hp → Prop, (∀ H', Nx H' → ∃ m', m' < m ∧ W (i + 1) m' H') ∧ ∀ x H', (Itl K a).yld i H x H' → B x H' Nx) :=
  sc_turns Pv (fun i x => xs[i]? = some x) h0 (fun i H lt p => ⟨⟨xs, xs[i], hl i H (Nat.le_of_lt lt) p, List.getElem?_eq_getElem lt⟩, fun x H' y => ⟨y.1, y.2 xs (hl i H (Nat.le_of_lt lt) p)⟩⟩) (fun H p => ⟨xs, hl _ H (Nat.le_refl _) p, Nat.le_refl _⟩) hs hd
theorem sc_tup {a : Addr} {xs : List V} {H0 : Hp} {Z : Hp → Prop} {B : V → Hp → (Hp → Prop) → Prop} (Pv : Nat → Hp → Prop) (h0 : Pv 0 H0) (hl : ∀ i H, i ≤ xs.length → Pv i H → SqT K H a xs) (hs : ∀ i x H, xs[i]? = some x → Pv i H → B x H (Pv (i + 1))) (hd : ∀ H, Pv xs.length H → Z H) :
    ∃ W : Nat → Nat → Hp → Prop, (∃ m, W 0 m H0) ∧ ∀ i m H, W i m H → ((Itt K a).stop i H ∧ Z H) ∨ ((Itt K a).go i H ∧ ∃ Nx : Hp → Prop, (∀ H', Nx H' → ∃ m', m' < m ∧ W (i + 1) m' H') ∧ ∀ x H', (Itt K a).yld i H x H' → B x H' Nx) :=
  sc_turns Pv (fun i x => xs[i]? = some x) h0 (fun i H lt p => ⟨⟨xs, xs[i], hl i H (Nat.le_of_lt lt) p, List.getElem?_eq_getElem lt⟩, fun x H' y => ⟨y.1, y.2 xs (hl i H (Nat.le_of_lt lt) p)⟩⟩) (fun H p => ⟨xs, hl _ H (Nat.le_refl _) p, Nat.le_refl _⟩) hs hd
end
/-- a set that holds the ints of l, each once -/
def Has (w : World) (D : Addr) (H : Hp) (l : List Int) : Prop := H D = some (SetO w D (fun j => decide (j ∈ l)) l.length) ∧ l.Nodup
theorem Has.more {w : World} {D : Addr} {H : Hp} {l : List Int} (h : Has w D H l) (k : Int) : ∃ l', (∀ j, j ∈ l' ↔ j ∈ l ∨ j = k) ∧ ∀ H', Has w D (upd H' D (setMore w D (fun j => decide (j ∈ l)) l.length k)) l' := by
  by_cases m : k ∈ l
  · refine ⟨l, fun j => ⟨.inl, fun z => z.elim id fun e => e ▸ m⟩, fun H' => ⟨?_, h.2⟩⟩
    rw [upd_same]
    have e1 : (fun j => decide (j ∈ l) || decide (j = k)) = fun j => decide (j ∈ l) := by
      funext j
      by_cases z : j = k
      · subst z
        simp [m]
      · simp [z]
    unfold setMore
    rw [e1, if_pos (decide_eq_true m)]
  · refine ⟨k :: l, fun j => by rw [List.mem_cons]; exact Or.comm, fun H' => ⟨?_, List.nodup_cons.mpr ⟨m, h.2⟩⟩⟩
    rw [upd_same]
    have e1 : (fun j => decide (j ∈ l) || decide (j = k)) = fun j => decide (j ∈ k :: l) := by
      funext j
      rw [Bool.eq_iff_iff, Bool.or_eq_true, decide_eq_true_eq, decide_eq_true_eq, decide_eq_true_eq, List.mem_cons]
      exact Or.comm
    unfold setMore
    rw [e1, if_neg (by simp [m]), List.length_cons]
end Tc
/-! enumerate(tuple), enumerate(tuple, start=k) -/
namespace Tc
open PySem PySem.Spec PyProof.Rows L2
/-- the tuple at a, each item in a new pair with its number, from k on -/
def Itc (K : PySem.W.Frag) (a : Addr) (k : Int) : It :=
  ⟨fun i H => ∃ (xs : List V) (x : V), SqT K H a xs ∧ xs[i]? = some x, fun i H v H' => ∃ (T : Addr) (x : V), v = .ref T ∧ H T = none ∧ H' = upd H T (.tup [.int (k + (i : Int)), x]) ∧ ∀ xs, SqT K H a xs → xs[i]? = some x,
    fun i H => ∃ xs : List V, SqT K H a xs ∧ xs.length = i⟩
/-- how the counter at e and the tuple's iterator at it stand -/
def Cnt (a e it : Addr) (k : Int) (i : Nat) (h : Heap) : Prop := (∃ old, IsEnum h e it (k + (i : Int)) old) ∧ h.IsTupleIter it a i ∧ e ≠ it
theorem Cnt.apart {a e it : Addr} {k : Int} {i : Nat} {h : Heap} {items : Array Value} (c : Cnt a e it k i h) (t : IsTup h a items) : a ≠ it ∧ e ∉ [it, a] := by
  obtain ⟨⟨old, he⟩, ⟨o, ho, hc, _⟩, ne⟩ := c
  obtain ⟨p, hp, pc, _⟩ := t
  refine ⟨fun z => ?_, fun m => ?_⟩
  · subst z
    cases hp.symm.trans ho
    rw [pc] at hc
    exact absurd hc (by decide)
  · rcases List.mem_cons.mp m with z | z
    · exact ne z
    · obtain rfl := List.mem_singleton.mp z
      cases hp.symm.trans he
      exact absurd (show Value.type "enumerate" = Value.type "tuple" from pc) (by decide)
theorem turn_count {P : Program} {w : World} {K : PySem.W.Frag} {elts : List Expr} {kk : Nat} {tpos : Pos} (a e it : Addr) (k : Int) : Turn P w K (.Tuple elts kk tpos) (Itc K a k) [e, it] e (Cnt a e it k) where
  mem := List.mem_cons_self
  obj := fun i h ⟨⟨old, he⟩, ⟨o, ho, _, hd⟩, _⟩ b m => by
    rcases List.mem_cons.mp m with rfl | m
    · exact ⟨_, he, fun v z => nomatch z⟩
    · obtain rfl := List.mem_singleton.mp m
      exact ⟨o, ho, fun v z => by rw [hd] at z; cases z⟩
  keep := fun i h h' ⟨⟨old, he⟩, hi, ne⟩ kp => ⟨⟨old, kp e (by simp) _ he⟩, hi.at fun o z => kp it (by simp) o z, ne⟩
  item := by
    intro X hP hw hK hc i pins s σ H E I fp c ⟨xs, x, hq, hx⟩
    subst hP hw hK
    obtain ⟨its, rv, tup, _⟩ := I.tuple hq
    obtain ⟨u, hu, ru⟩ := rv.get hx
    have ⟨ai, ef⟩ := c.apart tup
    obtain ⟨⟨old, he⟩, hit, ne⟩ := id c
    have lt : i < its.toArray.size := by
      have := (List.getElem?_eq_some_iff.mp hu).1
      simpa using this
    have le : e < s.heap.objs.size := Heap.lt_size he
    have li : it < s.heap.objs.size := let ⟨_, z, _⟩ := hit; Heap.lt_size z
    refine wpAny_pyNext_enum_itemC (Draws.tuple (A := X.A.in1) (I.ok.hd hc) it a ai its.toArray) he ⟨hit, tup⟩ lt ne ef fun y h' tk hy out st new size kp => ⟨_, rfl, ?_⟩
    obtain rfl : u = y := Option.some.inj (hu.symm.trans (by simpa using hy))
    refine wpAny_letOwnedTupleGo_enum (s := { s with heap := h', toks := tk + 1 }) out fun h'' he' but => ?_
    have new2 := (but.2 _ (Nat.ne_of_gt le)).trans new
    have inv : Inv X pins σ (upd H s.heap.objs.size (.tup [.int (k + (i : Int)), x])) { s with heap := h'', toks := tk + 1 } :=
      I.turnedNew (ch := [e, it]) (fun b o n z => (but.2 b fun q => n (by simp [q])).trans (kp b o (fun q => n (by simp [q])) (fun q => n (by simp [q])) z)) fp (Nat.le_refl _) ⟨by show 2 ≤ sizeLine; decide, [.int (k + (i : Int)) tk, u], .cons ⟨_, rfl⟩ (.cons ru .nil), ⟨_, new2, rfl, _, rfl⟩⟩
    refine ⟨.ref s.heap.objs.size, _, inv, rfl, ⟨_, x, rfl, I.hok.fresh (Nat.le_refl _), rfl, fun ys hy => I.tuple_inj hy hq ▸ hx⟩, ⟨⟨u, ?_⟩, st.1.at fun o z => (but.2 it (Ne.symm ne)).trans z, ne⟩, fun b m => ?_⟩
    · rw [show k + ((i + 1 : Nat) : Int) = k + (i : Int) + 1 by omega]
      exact he'
    · have lb : b < s.heap.objs.size := by
        rcases List.mem_cons.mp m with rfl | m
        · exact le
        · exact List.mem_singleton.mp m ▸ li
      exact (upd_ne (Nat.ne_of_lt lb)).trans (fp b m).1
  done := by
    intro X hP hw hK hc i pins s σ H E I fp c ⟨xs, hq, hl⟩
    subst hP hw hK
    obtain ⟨its, rv, tup, _⟩ := I.tuple hq
    obtain ⟨g0, g1, g2, g3, g4, g5⟩ := fp it (by simp)
    have n : its.toArray.size = i := by rw [List.size_toArray, ← rv.length]; exact hl
    refine wpAny_pyNext_enum_endD (Draws.tuple (A := X.A.in1) (I.ok.hd hc) it a (c.apart tup).1 its.toArray) c.1.choose_spec ⟨n.symm ▸ c.2.1, tup⟩ fun h' but => ⟨rfl, I.turned (t' := s.toks) (fun b o nb z => but b o nb z) g0 g1 g3 g4 g5⟩
  self := fun A i s Q E ⟨⟨_, he⟩, _⟩ h => wpAny_pyIter_enum he h
section
variable {M : Model} {A : Around} {E : Value → Shared → Prop} {s : Shared} {env : Env}
/-- a built-in class called with one thing and more by their names -/
theorem type_kw {pos : Pos} {T : String} {x : Expr} {kws : List Keyword} {Q : Value → Shared → Prop} (one : backTo pos (starEach [x] env) = (false, eval x env) :: backTo pos (starEach [] env)) (named : (backToKw pos (keywordEach kws env)).all (·.1.isSome) = true) (no : (backToKw pos (keywordEach kws env)).any (·.1.isNone) = false)
    (plain : (backTo pos (starEach [x] env)).any (·.1) = false) (h : wpAny M A (spliced (backTo pos (starEach [x] env))) (fun vs s1 => wpAny M A (evalAll ((backToKw pos (keywordEach kws env)).map (·.2))) (fun ws s2 => wpAny M A (call (.type T) vs (((backToKw pos (keywordEach kws env)).filterMap (·.1)).zip ws)) Q E s2) E s1) E s) :
    wpAny M A (callWith pos (.type T) [] (backTo pos (starEach [x] env)) (backToKw pos (keywordEach kws env))) Q E s := by
  have args : wpAny M A (evalArgs (.type T) true (backTo pos (starEach [x] env)) (backToKw pos (keywordEach kws env))) (fun a s1 => wpAny M A (call (.type T) a.pos a.kw) Q E s1) E s := by
    rw [one] at h ⊢
    exact evalArgs_kwB named h
  unfold callWith
  refine wpAny_bind (wpAny_holding (wpAny_mono args (fun a s1 h1 => wpAny_bind (wpAny_standAt ?_)) fun _ _ z => z))
  simp only [plain, no, Bool.or_false]
  refine wpAny_bind (wpAny_pure ?_)
  exact wpAny_bind (wpAny_mono (show wpAny M A (call (.type T) ([] ++ a.pos) a.kw) Q E s1 from h1) (fun r s2 done => wpAny_bind (wpAny_holding (wpAny_point (wpAny_pure done)))) fun _ _ z => z)
end
section
variable {X : Cx} {e : Expr} {ta tk : TA} {p pos tpos : Pos} {elts : List Expr} {kk : Nat} {kws : List Keyword}
/-- what stands behind the making of a counter -/
theorem count_on {pins : List (Addr × Obj)} {σ : L2.St} {H : Hp} {s : Shared} {R : It → Hp → Prop} {a : Addr} {k : Int} {h' : Heap} (I : Inv X pins σ H s) (he : IsEnum h' (s.heap.objs.size + 1) s.heap.objs.size k .none)
    (hit : h'.get? s.heap.objs.size = some { cls := .type "tuple_iterator", data := .fields #[.ref a, .int 0 0] }) (keep : ∀ b o, s.heap.get? b = some o → h'.get? b = some o) (q : R (Itc X.K a k) H) :
    wpAny (model X.prog X.w) X.A (pyIter (.ref (s.heap.objs.size + 1))) (PIE X pins σ (.Tuple elts kk tpos) R) X.xe { s with heap := h' } := by
  refine wpAny_pyIter_enum he ⟨_, [s.heap.objs.size + 1, s.heap.objs.size], _, _, H, rfl, I.kept (t' := s.toks) keep, turn_count a _ _ k, ⟨⟨.none, ?_⟩, ⟨_, hit, rfl, rfl⟩, Nat.succ_ne_self _⟩, fun b m => ?_, q⟩
  · rw [show k + ((0 : Nat) : Int) = k from Int.add_zero k]
    exact he
  · have far : s.heap.objs.size ≤ b := by
      rcases List.mem_cons.mp m with rfl | m
      · exact Nat.le_succ _
      · exact Nat.le_of_eq (List.mem_singleton.mp m).symm
    exact I.fpOk far (I.hok.fresh far)
def iCountK (K : PySem.W.Frag) (ta tk : TA) : TI := fun σ H R => ta σ H fun vs H1 => tk σ H1 fun zs H2 => ∃ (a : Addr) (xs : List V) (k : Int), vs = [.ref a] ∧ zs = [.int k] ∧ SqT K H2 a xs ∧ -1000000 ≤ k ∧ k ≤ 1000000 ∧ R (Itc K a k) H2
/-- for n, x in enumerate(tuple, start=k) -/
theorem pi_countK (hg : Gl X "enumerate") (hm : X.mg "enumerate" = none) (ha : PA X [e] ta) (hk : PK X kws tk) (hks : (backToKw pos (keywordEach kws X.env)).filterMap (·.1) = [Str.ofString "start"] := by rfl) (hall : (backToKw pos (keywordEach kws X.env)).all (·.1.isSome) = true := by rfl)
    (hnone : (backToKw pos (keywordEach kws X.env)).any (·.1.isNone) = false := by rfl) (hs : backTo pos (starEach [e] X.env) = (false, eval e X.env) :: backTo pos (starEach [] X.env) := by rfl) (hpl : (backTo pos (starEach [e] X.env)).any (·.1) = false := by rfl) :
    PI X (.Tuple elts kk tpos) (.Call (.Name "enumerate" p) [e] kws pos) (iCountK X.K ta tk) := by
  have n1 : (Str.ofString "enumerate") ≠ "__name__" := by decide
  have n2 : (Str.ofString "enumerate" == ("__debug__" : Str)) = false := by decide
  refine ⟨fun pins s σ H R I h => ?_⟩
  refine wpAny_Call_Name_kw ?_
  refine ld_blt I hg hm boot_enumerate ?_ n1 n2
  refine type_kw hs hall hnone hpl (thn (ha.run pos pins s σ H (fun vs H1 => tk σ H1 fun zs H2 => ∃ (a : Addr) (xs : List V) (k : Int), vs = [.ref a] ∧ zs = [.int k] ∧ SqT X.K H2 a xs ∧ -1000000 ≤ k ∧ k ≤ 1000000 ∧ R (Itc X.K a k) H2) I h) fun us s1 c1 => ?_)
  obtain ⟨vs, H1, I1, r1, q1⟩ := c1
  refine thn (hk.run pos pins s1 σ H1 _ I1 q1) fun ws s2 c2 => ?_
  obtain ⟨zs, H2, I2, r2, q2⟩ := c2
  obtain ⟨a, xs, k, e1, e2, hq, k0, k1, q⟩ := q2
  subst e1 e2
  rw [hks, Vals.ref1 r1]
  obtain ⟨u, rfl, ru⟩ := vals1 r2
  obtain ⟨t, rfl⟩ := ru
  obtain ⟨its, _, tup, _⟩ := I2.tuple hq
  exact enum_begins_start (begins_tuple a its.toArray) tup (by omega) (by omega) fun h' he hit _ keep => count_on I2 he hit keep q
end
end Tc
/-! enumerate(tuple) from 0 -/
namespace Tc
open PySem PySem.Spec PyProof.Rows L2
set_option maxHeartbeats 2000000 in
theorem new_count (t : Addr) (items : Array Value) :
    Meets (Builtin.«enumerate.__new__» ⟨[.type "enumerate", .ref t], []⟩) (fun _ R s => s.heap.IsTuple t items ∧ R (.ok (.ret (.ref (s.heap.objs.size + 1))))
      { s with heap := (s.heap.push { cls := .type "tuple_iterator", data := .fields #[.ref t, .int 0 0] }).push { cls := .type "enumerate", data := .fields #[.none, .bool false, .ref s.heap.objs.size, rawInt 0, .none, .none] } }) :=
  .of_wp fun prog w A R s ⟨tup, fin⟩ => by
    have size : (s.heap.push { cls := .type "tuple_iterator", data := .fields #[.ref t, .int 0 0] }).objs.size = s.heap.objs.size + 1 := Heap.size_push ..
    rw [← size] at fin
    obtain ⟨hp, g, d, tk, os⟩ := s
    have own := sub_enumerate
    have iter : ∀ {A : Around} {E : Value → Shared → Prop} {Q : Value → Shared → Prop}, Q (.ref hp.objs.size) ⟨hp.push { cls := .type "tuple_iterator", data := .fields #[.ref t, .int 0 0] }, g, d, tk, os⟩ → wpAny (model prog w) A (pyIter (.ref t)) Q E ⟨hp, g, d, tk, os⟩ := fun q => (begins_tuple t items).iter _ _ _ _ ⟨hp, g, d, tk, os⟩ _ tup q
    wp_walk using iter
    refine wpAny_stack_any fun st => wpAny_pure ?_
    split
    · rename_i c _ _ _ _ _
      cases (c == Value.type "enumerate") <;> (wp_walk using iter; exact ⟨_, rfl, fin⟩)
    · wp_walk using iter
      exact ⟨_, rfl, fin⟩
theorem call_count {prog : Program} {w : World} {A : Around} {E : Value → Shared → Prop} {s : Shared} {t : Addr} {items : Array Value} {Q : Value → Shared → Prop} (tup : s.heap.IsTuple t items)
    (fin : ∀ h', IsEnum h' (s.heap.objs.size + 1) s.heap.objs.size 0 .none → h'.get? s.heap.objs.size = some { cls := .type "tuple_iterator", data := .fields #[.ref t, .int 0 0] } → (∀ b o, s.heap.get? b = some o → h'.get? b = some o) → Q (.ref (s.heap.objs.size + 1)) { s with heap := h' }) :
    wpAny (model prog w) A (call (.type "enumerate") [.ref t]) Q E s := by
  refine callType_new F.called_enumerate (by decide) (F.typeCall_enumerate_1 _) (F.newCall_enumerate_1 _) (fun obj => F.args_object_init_2 obj _) F.entry_enumerate_new (new_count t items) ⟨tup, ?_⟩
  have size : (s.heap.push { cls := .type "tuple_iterator", data := .fields #[.ref t, .int 0 0] }).objs.size = s.heap.objs.size + 1 := Heap.size_push ..
  generalize hp : s.heap.push { cls := .type "tuple_iterator", data := .fields #[.ref t, .int 0 0] } = h1 at size
  have made : IsEnum (h1.push { cls := .type "enumerate", data := .fields #[.none, .bool false, .ref s.heap.objs.size, rawInt 0, .none, .none] }) (s.heap.objs.size + 1) s.heap.objs.size 0 .none := size ▸ Heap.get?_push_size _ rfl
  exact ⟨⟨_, made, rfl⟩, fin _ made (Heap.get?_push_of_some _ (hp ▸ Heap.get?_push_size _ rfl)) fun b o z => Heap.get?_push_of_some _ (hp ▸ Heap.get?_push_of_some _ z)⟩
section
variable {X : Cx} {e : Expr} {ta : TA} {p pos tpos : Pos} {elts : List Expr} {kk : Nat}
def iCount (K : PySem.W.Frag) (ta : TA) : TI := fun σ H R => ta σ H fun vs H1 => ∃ (a : Addr) (xs : List V), vs = [.ref a] ∧ SqT K H1 a xs ∧ R (Itc K a 0) H1
/-- for n, x in enumerate(tuple) -/
theorem pi_count (hg : Gl X "enumerate") (hm : X.mg "enumerate" = none) (ha : PA X [e] ta) (hs : starEach [e] X.env = [(false, eval e X.env)] := by rfl) : PI X (.Tuple elts kk tpos) (.Call (.Name "enumerate" p) [e] [] pos) (iCount X.K ta) := by
  refine ⟨fun pins s σ H R I h => Call_ (ld_blt I hg hm boot_enumerate (callWith_type1 (thn (ha.run pos pins s σ H _ I h) fun us s1 c1 => ?_) hs rfl))⟩
  obtain ⟨vs, H1, I1, r1, a, xs, e1, hq, q⟩ := c1
  subst e1
  rw [Vals.ref1 r1]
  obtain ⟨its, _, tup, _⟩ := I1.tuple hq
  exact call_count tup fun h' he hit keep => count_on I1 he hit keep q
end
end Tc
/-! sorted(tuple of ints) -/
namespace Tc
open PySem PySem.Spec PyProof.Rows L2
def rSortedTI (K : PySem.W.Frag) : List V → Hp → VK → Prop := fun vs H Q => ∃ (a : Addr) (ns : List Int), vs = [V.ref a] ∧ SqT K H a (ns.map V.int) ∧ ∀ (ms : List Int) (p : Addr), ms.Perm ns → ms.Pairwise (· ≤ ·) → H p = none → Q (.ref p) (upd H p (.lst (ms.map V.int)))
set_option maxHeartbeats 4000000 in
theorem cr_sortedTI {X : Cx} : CallR X (.builtin "sorted") (rSortedTI X.K) := by
  intro pins s σ H vs us Q I r ⟨a, ns, e0, hs, q⟩
  subst e0
  rw [Vals.ref1 r]
  obtain ⟨its, rv, ⟨ob, at1, cls, n, dat⟩, fits⟩ := I.tuple hs
  have are := rv.ints
  have size : its.length ≤ sizeLine := rv.length ▸ fits
  refine Calls.call_function_entry kind_sorted plain_sorted entry_sorted (args_sorted1 _) (show wpAny _ _ (Builtin.«sorted» _) _ _ _ from ?_)
  refine wpAny_bind (m := checkCount "sorted" 1 1 _) (wpAny_pure (wpAny_bind (wpAny_collect_seq a (.inr rfl) at1 cls dat (fun g keep => ?_) (by rw [List.size_toArray]; exact size))))
  rw [show its.toArray.toList = its by simp]
  have kept := I.kept (h' := g) (t' := s.toks) keep
  refine wpAny_bind (wpAny_newList ?_ size)
  generalize hL : g.push (seqObj "list" its.toArray 0) = L
  have new : L.get? g.objs.size = some (seqObj "list" its.toArray 0) := hL ▸ Heap.get?_push_size _ rfl
  refine wpAny_bind (wpAny_holding (wpAny_call_entry slot_list_sort ⟨_, new, rfl⟩ entry_list_sort (SrtO.list_sort_ord SrtO.swo_int new size (fun lt => SrtO.ints_sortable are lt) fun out o1 o2 => ⟨_, rfl, ?_⟩) (args_list_sort _)))
  obtain ⟨r1, r2, r3⟩ := SrtO.ints_out are o1 o2
  have ⟨c, at2⟩ := sortedHeap_at (vs := its) (out := out.toArray) new
  have few : ((out.map SrtO.iv).map V.int).length ≤ sizeLine := by
    rw [List.length_map, r2.length_eq]
    rw [List.length_map] at fits
    exact fits
  refine wpAny_pure ⟨_, rfl, .ref g.objs.size, upd H g.objs.size (.lst ((out.map SrtO.iv).map V.int)), kept.laid (t' := s.toks) (fun b u e => ?_) (Nat.le_refl _) ⟨few, out, c, vals_of_ints r1, at2⟩, rfl, q _ _ r2 r3 (kept.hok.fresh (Nat.le_refl _))⟩
  have lt := Heap.lt_size e
  show (sortedHeap L g.objs.size its out.toArray).get? b = some u
  rw [sortedHeap_old (Nat.ne_of_lt lt) (hL ▸ size_push' g _ ▸ Nat.lt_succ_of_lt lt), ← hL]
  exact Heap.get?_push_of_some _ e
end Tc
/-! sorted(dict of int keys), of any number -/
namespace Tc
open PySem PySem.Spec PyProof.Rows L2
def rSortedDA : List V → Hp → VK → Prop := fun vs H Q => ∃ (a : Addr) (kvs : List (Key × V)) (ks : List Int), vs = [V.ref a] ∧ Rd H a (.dK kvs) ∧ kvs.map (·.1) = ks.map Sum.inl ∧ ∀ (ms : List Int) (p : Addr), ms.Perm ks → ms.Pairwise (· ≤ ·) → H p = none → Q (.ref p) (upd H p (.lst (ms.map V.int)))
set_option maxHeartbeats 4000000 in
theorem cr_sortedDA {X : Cx} (hc : X.calm = true) : CallR X (.builtin "sorted") rSortedDA := by
  intro pins s σ H vs us Q I r ⟨a, kvs, ks, e0, hd, hks, q⟩
  subst e0
  rw [Vals.ref1 r]
  obtain ⟨fits, lo, prs, rel, dd⟩ := dk_rd I.hok hd
  obtain ⟨ep, hat⟩ := dd.dictAt
  have keys : prs.map (·.1) = ks.map Sum.inl := rel.keys.symm.trans hks
  have many : prs.length = ks.length := by simpa using congrArg List.length keys
  have size : prs.length ≤ sizeLine := by
    have e := congrArg List.length hks
    rw [List.length_map] at e
    rw [List.length_map] at e
    rw [many, ← e]
    exact fits
  refine Calls.call_function_entry kind_sorted plain_sorted entry_sorted (args_sorted1 _) (show wpAny _ _ (Builtin.«sorted» _) _ _ _ from ?_)
  refine wpAny_bind (m := checkCount "sorted" 1 1 _) (wpAny_pure (wpAny_bind (PySem.W.kdu_collect (A := X.A.in1) (PySem.W.kdl_dict (knd := mixKind X.prog X.w) (kvs := prs) (ep := ep) lo) (I.ok.hd hc) hat size fun g tk acc keep items => ?_)))
  have al : acc.toList.length = ks.length := by rw [Array.length_toList, items.1, many]
  have are : IntsAre acc.toList ks := ints_each al fun j v e => by
    obtain ⟨k, x, e1, e2⟩ := items.2 j v (by rw [← Array.getElem?_toList]; exact e)
    have e3 : (ks.map (Sum.inl : Int → Key))[j]? = some k := by rw [← keys, List.getElem?_map, e1]; rfl
    rw [List.getElem?_map] at e3
    obtain ⟨y, e4, e5⟩ := Option.map_eq_some_iff.mp e3
    subst e5
    have sh := keyIs_shape (show keyIs (Sum.inl y) v = true from e2)
    rcases sh with ⟨i, t, ek, ev⟩ | ⟨z, t, ek, ev⟩
    · cases ek
      exact ⟨y, t, e4, ev⟩
    · cases ek
  have kept : Inv X pins σ H { s with heap := g, toks := tk } := I.kept keep
  have size2 : acc.toList.length ≤ sizeLine := by rw [al, ← many]; exact size
  refine wpAny_bind (wpAny_newList ?_ size2)
  generalize hL : g.push (seqObj "list" acc.toList.toArray 0) = L
  have new : L.get? g.objs.size = some (seqObj "list" acc.toList.toArray 0) := hL ▸ Heap.get?_push_size _ rfl
  show wpAny _ _ _ _ _ { s with heap := L, toks := tk }
  refine wpAny_bind (wpAny_holding (wpAny_call_entry slot_list_sort ⟨_, new, rfl⟩ entry_list_sort (SrtO.list_sort_ord SrtO.swo_int new size2 (fun lt => SrtO.ints_sortable are lt) fun out o1 o2 => ⟨_, rfl, ?_⟩) (args_list_sort _)))
  obtain ⟨r1, r2, r3⟩ := SrtO.ints_out are o1 o2
  have ⟨c, at2⟩ := sortedHeap_at (vs := acc.toList) (out := out.toArray) new
  have few : ((out.map SrtO.iv).map V.int).length ≤ sizeLine := by
    rw [List.length_map, r2.length_eq, ← al]
    exact size2
  refine wpAny_pure ⟨_, rfl, .ref g.objs.size, upd H g.objs.size (.lst ((out.map SrtO.iv).map V.int)), kept.laid (t' := tk) (fun b u e => ?_) (Nat.le_refl _) ⟨few, out, c, vals_of_ints r1, at2⟩, rfl, q _ _ r2 r3 (kept.hok.fresh (Nat.le_refl _))⟩
  have lt := Heap.lt_size e
  show (sortedHeap L g.objs.size acc.toList out.toArray).get? b = some u
  rw [sortedHeap_old (Nat.ne_of_lt lt) (hL ▸ size_push' g _ ▸ Nat.lt_succ_of_lt lt), ← hL]
  exact Heap.get?_push_of_some _ e
end Tc
/-! xs += ys of lists; range by twos -/
namespace Tc
open PySem PySem.Spec PyProof.Rows L2
theorem li_seqI : seqSlot? (.type "list") (dunderI "add") = pure (some (.builtin "list.__iadd__")) := PySem.seqSlot_of PySem.F.slot_list_iadd.lookup (by decide +kernel)
theorem li_fillI : fillsInplaceSlot (.type "list") "add" (Operator.Add == .Add) = pure false := by
  unfold fillsInplaceSlot
  have e : isSeqSlot (some (.builtin "list.__iadd__")) = true := by decide +kernel
  show (typeLookup (.type "list") (dunderI "add") >>= fun z => pure (z.isSome && !isSeqSlot z)) = pure false
  rw [PySem.F.slot_list_iadd.lookup, pure_bind, e]
  rfl
theorem li_iadd {M : Model} {A : Around} {E : Value → Shared → Prop} {s : Shared} {a b : Value} {Q : Value → Shared → Prop} (ha : s.TypeIs a "list") (hb : s.TypeIs b "list") (go : wpAny M A (call (.builtin "list.__iadd__") [a, b]) Q E s) : wpAny M A (inplaceOp .Add a b) Q E s := by
  unfold inplaceOp
  refine wpAny_holding (wpAny_bind (wpAny_typeOf ha (wpAny_bind (wpAny_of_eq li_fillI ?_))))
  rw [if_neg (show ¬ false = true by decide)]
  exact wpAny_bind (wpAny_binaryOp1_none (nm := "add") ha hb noFill_list_add (wpAny_bind (wpAny_of_eq li_seqI (wpAny_bind (wpAny_rule go)))))
/-- a list made longer by another one -/
def ipCat : TIp := fun x y H Q => ∃ (l b : Addr) (xs zs : List V), x = .ref l ∧ y = .ref b ∧ H l = some (.lst xs) ∧ H b = some (.lst zs) ∧ xs.length + zs.length ≤ sizeLine ∧ Q (.ref l) (upd H l (.lst (xs ++ zs)))
theorem ip_cat {X : Cx} : PIp X .Add ipCat := by
  intro pins s σ H x y v u Q I rx ry ⟨l, b, xs, zs, ex, ey, hl, hb, few, q⟩
  subst ex
  subst ey
  obtain rfl : v = Value.ref l := rx; obtain rfl : u = Value.ref b := ry
  obtain ⟨z, its, n, r, _, e⟩ := I.lstM hl
  obtain ⟨z2, its2, n2, r2, _, e2⟩ := I.lstM hb
  have fit : its.toArray.size + its2.toArray.size ≤ sizeLine := by
    simp only [List.size_toArray]; omega
  have nol : ¬ (!its.toArray.isEmpty && Builtin.List.listTooLong (its.toArray.size + its2.toArray.size)) = true := by
    rw [notLongL fit, Bool.and_false]
    decide
  refine li_iadd ⟨_, e, rfl⟩ ⟨_, e2, rfl⟩ (call_meets PySem.F.slot_list_iadd ⟨_, e, rfl⟩ PySem.F.entry_list_iadd (PySem.F.args_list_iadd_2 _ _) (AutoSeq1.list___iadd___list_list_0 l its.toArray n b its2.toArray n2 nol (by rw [List.size_toArray]; omega) (by omega)) ⟨e, e2, ?_⟩)
  exact ⟨.ref l, _, I.lset (its' := its ++ its2) hl e (by simp) (r.append r2) (by rw [List.length_append]; omega), rfl, q⟩
theorem rg_small {m : Int} {j : Int} (e : Builtin.Range.rangeSize 0 j 2 = m) (h0 : 0 ≤ m) (h1 : m < 100000) (h2 : 0 ≤ j) (h3 : j < 1000000) : Builtin.Range.small 0 j 2 = true := by
  unfold Builtin.Range.small
  rw [e]
  simp only [Builtin.Range.rangeFitsLong, Bool.and_eq_true, Bool.or_eq_true, decide_eq_true_eq, beq_iff_eq, show ((2 : Int) > 0) = True from eq_true (by decide), if_true]
  omega
theorem rg_two {n : Nat} (h : n < 100000) : RgC 0 ((2 * n : Nat) : Int) 2 n := by
  have e : Builtin.Range.rangeSize 0 ((2 * n : Nat) : Int) 2 = (n : Int) := by
    unfold Builtin.Range.rangeSize; rw [if_pos (by decide)]
    split <;> omega
  exact ⟨by decide, by decide, rg_small e (by omega) (by omega) (by omega) (by omega), e⟩
/-- a list's comprehension over a range by steps -/
theorem lc_step {lo c : Int} {n : Nat} {g : TG} {tt : TT} {te : TE} {own : List Nat} {σ : L2.St} {H1 : Hp} {D : Addr} {Fin : Hp → Prop} (Pv : Nat → Hp → Prop) (h0 : Pv 0 (upd H1 D (.lst [])))
    (turn : ∀ j G, j < n → Pv j G → g (.int (lo + (j : Nat) * c)) (wipe σ own) G fun τ G2 => wipe τ own = wipe σ own ∧ tt τ G2 fun b G3 => if b = true then (te τ G3 fun y G4 => ∃ acc, G4 D = some (.lst acc) ∧ acc.length < sizeLine ∧ Pv (j + 1) (upd G4 D (.lst (acc ++ [y])))) else Pv (j + 1) G3) (fin : ∀ G, Pv n G → Fin G) :
    ∃ R : Nat → Nat → Hp → Prop, (∃ m, R 0 m (upd H1 D (.lst []))) ∧ ∀ j m G, R j m G → ((L2.Itc lo c n).stop j G ∧ Fin G) ∨ ((L2.Itc lo c n).go j G ∧ ∃ On : Hp → Prop, (∀ G', On G' → ∃ m', m' < m ∧ R (j + 1) m' G') ∧
      ∀ x G', (L2.Itc lo c n).yld j G x G' → g x (wipe σ own) G' fun τ G2 => wipe τ own = wipe σ own ∧ tt τ G2 fun b G3 => if b = true then (te τ G3 fun y G4 => ∃ acc, G4 D = some (.lst acc) ∧ acc.length < sizeLine ∧ On (upd G4 D (.lst (acc ++ [y])))) else On G3) := by
  refine ⟨fun j m G => j ≤ n ∧ m = n - j ∧ Pv j G, ⟨_, Nat.zero_le _, rfl, h0⟩, fun j m G ⟨hj, em, p⟩ => ?_⟩
  rcases Nat.lt_or_ge j n with lt | ge
  · refine .inr ⟨lt, Pv (j + 1), fun G' p' => ⟨n - (j + 1), by omega, by omega, rfl, p'⟩, ?_⟩
    rintro x G' ⟨rfl, rfl⟩
    exact turn j _ lt p
  · obtain rfl : j = n := by omega
    exact .inl ⟨Nat.le_refl _, fin G p⟩
end Tc
/-! len(x) of an object of the program's own, by its __len__ -/
namespace Tc
open PySem PySem.Spec PyProof.Rows L2
def rLenO (C : Addr) (sp : Sp) : List V → Hp → VK → Prop := fun vs H Q => ∃ (a dx : Addr) (fs : List (Str × V)), vs = [V.ref a] ∧ H a = some (.ins C dx fs) ∧ sp [.ref a] H (fun v H' => ∃ m : Nat, m ≤ 100000 ∧ v = .int (m : Int) ∧ Q (.int (m : Int)) H') E0
theorem cr_lenO {X : Cx} {C f : Addr} {fd : FuncData} {n : Nat} {sp : Sp} (hr : Room (n + 1) X.A) (hl : Meth X.K C "__len__" f) (F : FnOk X.prog X.w X.K X.mg X.base CX0 n f fd ["self"] sp) (hb : Binds X.K fd ["self"] []) : CallR X (.builtin "len") (rLenO C sp) := by
  intro pins s σ H vs us Q I r ⟨a, dx, fs, e0, ha, hsp⟩
  subst e0
  rw [Vals.ref1 r]
  obtain ⟨_, inst, _⟩ := ins_get I.hok ha
  obtain ⟨_, inst, _⟩ := inst.look
  refine Calls.call_function_entry (kind_len) plain_len entry_len (args_len1 _) ?_
  unfold Builtin.«len»
  refine wpAny_bind (m := oneArg "len" _) (wpAny_pure (wpAny_bind (m := callSpecial? (.ref a) (Str.ofString "__len__")) ?_))
  unfold callSpecial? specialOf
  refine wpAny_bind (wpAny_bind (inst.type.here ((PySem.W.looks_findIn I.kIn hl.at_).here ?_)))
  refine wpAny_holding ?_
  refine wpAny_bind ((PySem.W.bind_fn I.kIn _ (beq_iff_eq.mp hl.fn)).here ?_)
  refine wpAny_bind ?_
  have env : Env0 X.prog X.w X.K X.mg X.base X.A.in1 X.stack s H := by
    have e := I.env0
    exact ⟨e.frames, e.mod, e.bs, e.bsz, e.funs, e.frf, e.hok, e.bare⟩
  have one : Vals [V.ref a] [Value.ref a] := .cons rfl .nil
  refine wpAny_call (codeAny_mono (F.run X.A.in1 X.stack s H ⟨[.ref a], []⟩ [.ref a] [.ref a] _ E0 hr.in1 env (by
    have := hb s [.ref a] I.kIn rfl
    simpa using this) one hsp) fun res s' hq => ?_)
  cases res with
  | error e => exact pass0 pins σ H s e s' I hq
  | ok fl =>
    cases fl with
    | next => exact hq.elim
    | brk => exact hq.elim
    | cont => exact hq.elim
    | ret u =>
      obtain ⟨v, H', I', rv, m, hm, ev, q⟩ := I.after hq
      subst ev
      obtain ⟨t, rfl⟩ := (show ∃ t, u = Value.int (m : Int) t from rv)
      refine wpAny_pure (wpAny_bind (wpAny_holding (wpAny_pure (wpAny_bind (wpAny_letGo ?_)))))
      show wpAny _ _ (if ((m : Nat) : Int) < 0 then _ else _) _ _ _
      rw [if_neg (by omega)]
      show wpAny _ _ (if ((m : Nat) : Int) ≥ 2 ^ 63 then _ else _) _ _ _
      rw [if_neg (by omega)]
      exact wpAny_bind (wpAny_mkInt (wpAny_pure ⟨_, rfl, .int (m : Int), H', I'.tok _, ⟨_, rfl⟩, q⟩))
end Tc
/-! a field as a target among others: x.f, y = .. -/
namespace Tc
open PySem PySem.Spec PyProof.Rows L2
def gFldT (K : PySem.W.Frag) (ta : TE) (f : Str) : TG := fun y σ H Q => ta σ H fun x H2 => ∃ a C dx fs, x = .ref a ∧ H2 a = some (.ins C dx fs) ∧ Cls K C ∧ NoAttr K C f ∧ fs.length < 1000 ∧ Q σ (upd H2 a (.ins C dx (putF f y fs)))
theorem pg_fldT {X : Cx} {o : Expr} {f : Str} {ta : TE} {pos : Pos} (ha : PE X o ta) : PG X (.Attribute o f pos) (gFldT X.K ta f) := by
  refine ⟨fun pins s σ H v u Q I r h => ?_⟩; rw [assign_Attribute]
  refine wpAny_bind (wpAny_holding (thn (ha.run pins s σ H _ I h) fun ov s1 ⟨x, H1, I1, rx, a, C, dx, fs, ex, ea, c, n, l, q⟩ => ?_))
  subst ex; obtain rfl : ov = Value.ref a := rx
  refine wpAny_bind (wpAny_standAt (wpAny_bind (wpAny_holding (setattr_ok I1 ea c n l r fun s3 I3 => ?_))))
  exact wpAny_release ⟨σ, _, I3, q⟩
end Tc
/-! d.update(d2) -/
namespace Tc
open PySem PySem.Spec PyProof.Rows L2
def rDUpd : V → List V → Hp → VK → Prop := fun x vs H Q => ∃ (a b : Addr) (kvs more : List (Key × V)), x = .ref a ∧ vs = [.ref b] ∧ a ≠ b ∧ H a = some (.dK kvs) ∧ H b = some (.dK more) ∧ kvs.length + more.length ≤ 100000 ∧ Q .non (upd H a (.dK (mergeK kvs more)))
theorem mt_dupd {X : Cx} : MtR X "dict.update" rDUpd := by
  intro pins s σ H x vs v us Q I rx rv ⟨a, b, kvs, more, ex, ev, ab, ha, hb, few, q⟩
  subst ex
  subst ev; obtain rfl : v = Value.ref a := rx
  rw [Vals.ref1 rv]
  obtain ⟨z1, s1, vs1, rel1, dd1⟩ := dk_of I.hok ha
  obtain ⟨z2, s2, vs2, rel2, dd2⟩ := dk_of I.hok hb
  have room : 100000 ≤ sizeLine := by decide
  refine call_meetsIn PySem.F.slot_dict_update dd1.typeIs PySem.F.entry_dict_update (PySem.F.args_dict_update_2 _ _) (meets_dict_update (mixKind X.prog X.w) a b ab s2) ⟨vs1, vs2, dd1, dd2, by rw [← rel1.length, ← rel2.length]; omega, fun h' dd' _ hs => ?_⟩
  have he : ∃ o, h'.get? a = some o := let ⟨o, _, _, ho, _⟩ := dd'; ⟨o, ho⟩
  have hl : (mergeK kvs more).length ≤ sizeLine := Nat.le_trans (length_mergeK more kvs) (by omega)
  exact ⟨.non, _, d_write (t' := s.toks) I (by rw [ha]; exact True.intro) hs he (dk_new hl s1 (KV.merge rel2 rel1) dd'), rfl, q⟩
end Tc
/-! a tuple that is written, known to have no dict of its own -/
namespace Tc
open PySem PySem.Spec PyProof.Rows L2
def tTupF (t : TA) : TE := fun σ H Q => t σ H fun xs H1 => xs.length ≤ sizeLine ∧ ∀ (p : Addr) (o : Obj), H1 p = none → o.dict = none → Q (.ref p) (upd H1 p (.frz o (.tup xs)))
theorem pe_tupF {X : Cx} {es : List Expr} {t : TA} {pos : Pos} {x1} (h : PA X es t) : PE X (.Tuple es x1 pos) (tTupF t) := ⟨fun pins s σ H Q I want => by
  refine wpAny_Tuple_spliced (thn (h.run pos pins s σ H _ I want) fun us s1 ⟨xs, H1, I1, r, size, go⟩ => ⟨by rw [← r.length]; exact size, ?_⟩)
  have new := I1.hok.fresh (Nat.le_refl s1.heap.objs.size)
  refine ⟨.ref s1.heap.objs.size, _, I1.laid (a := s1.heap.objs.size) (t' := s1.toks) (fun b u e => Heap.get?_push_of_some _ e) (Nat.le_refl _) ?_, rfl, go _ { cls := .type "tuple", data := .seq us.toArray } new rfl⟩
  exact (show ObjOk X.prog X.w _ _ _ (.frz _ (.tup xs)) from ⟨Heap.get?_push_size _ rfl, size, us, r, IsTup.new _ _⟩)⟩
end Tc
/-! an exception's own __init__ that says super().__init__(..) -/
namespace Tc
open PySem PySem.Spec PyProof.Rows L2
section
variable {X : Cx} {pins : List (Addr × Obj)} {σ : L2.St} {H : Hp} {s : Shared} {A : Around} {E : Value → Shared → Prop} {a C u : Addr}
/-- the bound ValueError.__init__ called: nothing of it is told -/
theorem wrap_call {us : List Value} {Q : Value → Shared → Prop} (T : OexC X.K C) (I : Inv X pins σ H s) (e : H a = some (exo a C none)) (hu : s.heap.get? u = some (PySem.W.kxs_mw "ValueError.__init__" a)) (hl : us.length ≤ sizeLine) (h : ∀ s', Inv X pins σ H s' → Q .none s') :
    wpAny (model X.prog X.w) A (call (.ref u) us) Q E s := by
  obtain ⟨cn, cq, cN, cb, cm, c1, c2, c3, c4, c5, j0, j1, j2, j3, j5, hC, hbm⟩ := T.cls
  obtain ⟨t1, ho⟩ := exo_at I.hok e
  obtain ⟨hp, g, d, t, os⟩ := s
  have fin : ∀ h', (∀ b o, b ≠ a → hp.get? b = some o → h'.get? b = some o) → h'.get? a = some (PySem.W.excObj C hp.objs.size none .none) → Q .none ⟨h', g, d, t, os⟩ := fun h' k hx => by
    have J := I.write (x := a) (e := a) (o := exo a C none) (t' := t) (e ▸ True.intro) (.inl rfl) k ⟨_, hx⟩ (exo_ok hx)
    have still : upd H a (exo a C none) = H := by
      funext b
      by_cases hb : b = a
      · rw [hb, upd_same, e]
      · rw [upd_ne hb]
    rw [still] at J
    exact h _ J
  refine wpAny_call (codeAny_of_tree (show wpAny _ A.in1 (callAny (.ref u) ⟨us, []⟩) _ _ _ from ?_))
  simp only [callAny]
  refine wpAny_bind (wpAny_load hu ?_)
  have w1 : (Value.type "method-wrapper" == Value.type "method" || Value.type "method-wrapper" == Value.type "builtin_function_or_method" || Value.type "method-wrapper" == Value.type "method-wrapper") = true := by decide
  simp only [PySem.W.kxs_mw, w1, if_true]
  refine PySem.W.KFB.if_so (by decide) (wpAny_bind (PySem.W.check_bound_init PySem.F.excBase_ValueError.toExcCallFacts (I.kIn _ _ hC) ho rfl (wpAny_bind (wpAny_pure (wpAny_pure ⟨plainId_quiet PySem.F.excBase_ValueError.init.plain _, codeAny_builtin PySem.F.excBase_ValueError.initEntry ?_⟩)))))
  exact PySem.W.exc_init_tree (cls := .ref C) (t0 := t1) (dv := none) (c2 := .none) (c3 := .none) (b4 := .bool false) ho hl fun h' k hx _ => fin h' k hx
end
end Tc
namespace Tc
open PySem PySem.Spec PyProof.Rows L2
/-- a bound __init__, as it stands for a moment -/
def mwO (u a : Addr) : HO := .ext fun h => h.get? u = some (PySem.W.kxs_mw "ValueError.__init__" a)
/-- what is known of the def, its code, its class -/
structure SupX (X : Cx) (C f cc cda : Addr) (me : Str) : Prop where
  ks : Gl X "super"
  kc : X.env.kindOf "__class__" = some .free
  fu : X.env.func = some f
  co : X.env.code = .ref cda
  fn : ∃ (of : Obj) (fd : FuncData) (ar : Arg), X.K.lookup f = some of ∧ of.data = .func fd ∧ (fd.params.posonlyargs ++ fd.params.args).head? = some ar ∧ ar.arg = me
  cd : ∃ (oc : Obj) (vs : Array Value) (file : Str) (tf : Tok), X.K.lookup cda = some oc ∧ oc.data = .fields vs ∧ vs[2]? = some (.str file tf) ∧ ((X.prog.main.file : Str) == file) = true
  top : (X.prog.main.scope.names.lookup ("super" : Str)).isSome = false
  mg : X.mg "super" = none
  ce : X.env.cells.lookup ("__class__" : Str) = some cc
  cv : ∃ ol : Obj, X.K.lookup cc = some ol ∧ ol.data = .cell (some (.ref C))
  lo : X.env.scope.names.lookup me = some .local
  cl : ∃ cdC : ClassData, PySem.W.clsIn X.K C = some cdC
  mr : PySem.W.mroIn X.K C (.ref C) = some true
  op : PySem.W.nsIn X.K cStatics "thirdparty.any" = some none
  su : PySem.W.ks_superIn X.K C C "__init__" = some (some (.builtin "ValueError.__init__"))
  ve : PySem.W.subIn X.K (.ref C) (.type "ValueError") = some true
theorem mwO_ok {P : Program} {w : World} {H : Hp} {h : Heap} {u a : Addr} (hu : h.get? u = some (PySem.W.kxs_mw "ValueError.__init__" a)) : ObjOk P w H h u (mwO u a) := ⟨hu, ⟨_, hu⟩, fun h1 h2 z k => k _ z⟩
theorem boot_sup : bootBuiltins "super" = some (.type "super") := PyProof.Rows.Boot.«super»
section
variable {X : Cx} {pins : List (Addr × Obj)} {σ : L2.St} {H : Hp} {s : Shared} {a C f cc cda : Addr} {me : Str}
set_option maxHeartbeats 2000000 in
/-- super().__init__(e) -/
theorem sup_init {body : List Stmt} {p0 p1 p2 pos : Pos} {e : Expr} {ta : TA} {i : Nat} {Q : VK} (Z : SupX X C f cc cda me) (T : OexC X.K C) (I : Inv X pins σ H s) (ea : H a = some (exo a C none)) (hi : X.N[i]? = some me) (hs : σ[i]? = some (some (.ref a))) (ha : PA X [e] ta)
    (hta : ∀ u, H u = none → ta σ (upd H u (mwO u a)) fun vs H1 => H1 = upd H u (mwO u a) ∧ vs.length ≤ 1000 ∧ Q .non H1)
    {pl : Sem Bool} (hc : eval (.Call (.Attribute (.Call (.Name "super" p0) [] [] p1) "__init__" p2) [e] [] pos) X.env = (do
      let ov ← attributeBase (.Call (.Name "super" p0) [] [] p1) "__init__" X.env (eval (.Call (.Name "super" p0) [] [] p1) X.env)
      standAt p2.atName
      let (g, g1) ← holding [ov] (getMethod ov "__init__" pl)
      callWith pos g g1 (backTo pos (starEach [e] X.env)) []))
    (he : starEach [e] X.env = (false, eval e X.env) :: starEach [] X.env := by rfl) :
    PySem.wpAt (model X.prog X.w) X.A (.func body X.env) (eval (.Call (.Attribute (.Call (.Name "super" p0) [] [] p1) "__init__" p2) [e] [] pos) X.env) (EP X pins σ Q) X.xe s := by
  obtain ⟨of, fd, ar, lf, hfd, hp, ear⟩ := Z.fn
  obtain ⟨oc, vs, file, tf, lc, hoc, hvs, hfile⟩ := Z.cd
  obtain ⟨ol, lo, hol⟩ := Z.cv
  obtain ⟨cdC, hcC⟩ := Z.cl
  subst ear
  have K1 := I.kIn
  obtain ⟨t1, hx⟩ := exo_at I.hok ea
  have In1 : PySem.W.InstAt s.heap a (PySem.W.excObj C t1 none .none) C none := ⟨hx, rfl, rfl, trivial⟩
  obtain ⟨oD, hD1, hD2⟩ : ∃ oD, s.heap.get? C = some oD ∧ oD.data = .cls cdC := by
    unfold PySem.W.clsIn at hcC
    split at hcC
    · rename_i ho
      cases hcC
      exact ⟨_, K1 _ _ ho, rfl⟩
    · cases hcC
  obtain ⟨hp', g, d, t, os⟩ := s
  refine PySem.ks_wpAt_MethodCall (pl := pl) (PySem.ks_wpAt_super_base Z.ks Z.kc (by decide) Z.fu (K1 _ _ lf) hfd hp Z.co (K1 _ _ lc) hoc hvs hfile Z.top ?_) hc
  obtain ⟨mb, b1, b2⟩ := I.mod.blt
  refine PySem.W.ks_loadName_global I.ok.kind Z.ks (Calls.loadGlobal_builtin (by rw [I.ok.glob]; exact I.mod.glob.keeps I.bk) Z.mg (by rw [I.ok.blt]; exact b1.keeps I.bk) ((b2 "super" (by decide)).trans boot_sup) ⟨rfl, ?_⟩)
  refine wpAny_loadName_free I.ok.kind Z.kc Z.ce ⟨ol, K1 _ _ lo, hol⟩ ?_
  obtain ⟨m, hn, hl⟩ := I.loc
  obtain ⟨uv, r, l⟩ := hl i ar.arg (.ref a) hi hs (.inl Z.lo)
  obtain rfl : uv = Value.ref a := r
  rcases l with ⟨hk, hm⟩ | ⟨hk, _⟩
  · refine wpAny_loadName_local I.ok.kind hk hn hm (PySem.ks_wpAny_isType_cls hD1 hD2 ⟨rfl, PySem.ks_wpAny_call_super hD1 hD2 hx rfl (fun c e => by cases e) (PySem.W.looks_mroIn K1 Z.mr) fun h' hso kp => ?_⟩)
    have I2 : Inv X pins σ H ⟨h', g, d, t, os⟩ := I.kept (t' := t) kp
    have K2 := I2.kIn
    have In2 : PySem.W.InstAt h' a (PySem.W.excObj C t1 none .none) C none := ⟨kp _ _ hx, rfl, rfl, trivial⟩
    have hsu := Z.su
    unfold PySem.W.ks_superIn at hsu
    rw [hcC] at hsu
    refine PySem.W.kxs_getMethod PySem.W.kxs_ValueError hso (PySem.W.looks_opaque K2 Z.op) (l₀ := cdC.mro) (fun A' Q' E' s' k' q' => wpAny_bind ((PySem.W.looks_clsIn K2 hcC) A' _ E' s' k' (wpAny_pure q'))) rfl K2 hsu (In2.type.andThen (PySem.W.looks_subIn K2 Z.ve)) (PySem.W.ks_ne K2 In2 hcC) (by decide) ?_
    have nu : H h'.objs.size = none := I2.hok.fresh (Nat.le_refl _)
    have I3 : Inv X pins σ (upd H h'.objs.size (mwO h'.objs.size a)) ⟨h'.push (PySem.W.kxs_mw "ValueError.__init__" a), g, d, t + 1, os⟩ := I2.laid (a := h'.objs.size) (t' := t + 1) (fun b o z => Heap.get?_push_of_some _ z) (Nat.le_refl _) (mwO_ok (Heap.get?_push_size _ rfl))
    generalize h'.objs.size = u at nu I3 ⊢
    generalize h'.push (PySem.W.kxs_mw "ValueError.__init__" a) = h3 at I3 ⊢
    have au : a ≠ u := fun z => by
      rw [← z, ea] at nu
      cases nu
    rw [he]
    refine PySem.W.kxs_callWith (i := "ValueError.__init__") (x := a) rfl (Calls.evalArgs_plain ?_)
    have run := ha.run pos pins _ σ _ _ I3 (hta u nu)
    rw [he] at run
    refine thn run fun us s4 ⟨vs4, H4, I4, rv, eH, hlen, q⟩ => ?_
    subst eH
    have hu4 : s4.heap.get? u = some (PySem.W.kxs_mw "ValueError.__init__" a) := (show ObjOk X.prog X.w _ _ u (mwO u a) from I4.hok u _ upd_same).1
    have hl4 : us.length ≤ sizeLine := by
      rw [← Paired.length rv, sizeLine_eq]
      omega
    exact ⟨hu4, wrap_call T I4 (by rw [upd_ne au]; exact ea) hu4 hl4 fun s' J => ⟨.non, _, J, rfl, q⟩⟩
  · have zl : X.env.kindOf ar.arg = some .local := Z.lo
    rcases hk with hk | hk
    · rw [zl] at hk
      cases hk
    · rw [zl] at hk
      cases hk
end
end Tc
namespace Tc
open PySem PySem.Spec PyProof.Rows L2 NdefX
section
variable {CX : CXT} {P : Program} {w : World} {K : PySem.W.Frag} {mg : Str → Option Value} {base : Heap} {N ps : List Str} {f cc cda C : Addr} {k : Nat} {sp : Sp} {name qual : Str} {params : Arguments} {scope : Scope} {st1 st2 : Stmt} {dV kV doc pm ct oc : Value} {an od : Option Addr} {osl : Array (Option Value)}
/-- the def as a nested one, its one cell the class -/
abbrev xF (name qual : Str) (params : Arguments) (st1 st2 : Stmt) (scope : Scope) (cc cda : Addr) : NF := ⟨name, qual, params, [st1, st2], scope, [("__class__", cc)], cda⟩
set_option maxHeartbeats 2000000 in
/-- a def whose first row is super().__init__(e) -/
theorem fn_super {p0 p1 p2 pos pos' : Pos} {e : Expr} {me : Str} (lk : K.lookup f = some ⟨oc, od, .func (PySem.W.fnX name qual params [st1, st2] scope [("__class__", cc)] dV kV doc pm an (.ref cda) ct), osl⟩) (hcd : PySem.W.codeIn K (.ref cda) qual = true) (S : NScope N ps ["__class__"] scope)
    (len : ∀ vs H Q E, sp vs H Q E → vs.length = ps.length) (T : OexC K C) (ccK : ∃ ol : Obj, K.lookup cc = some ol ∧ ol.data = .cell (some (.ref C)))
    (hst : st1 = .Expr (.Call (.Attribute (.Call (.Name "super" p0) [] [] p1) "__init__" p2) [e] [] pos) pos') (h0 : N[0]? = some me)
    (hcall : ∀ env : Env, ∃ pl : Sem Bool, eval (.Call (.Attribute (.Call (.Name "super" p0) [] [] p1) "__init__" p2) [e] [] pos) env = (do
      let ov ← attributeBase (.Call (.Name "super" p0) [] [] p1) "__init__" env (eval (.Call (.Name "super" p0) [] [] p1) env)
      standAt p2.atName
      let (g, g1) ← holding [ov] (getMethod ov "__init__" pl)
      callWith pos g g1 (backTo pos (starEach [e] env)) []))
    (hstar : ∀ env : Env, starEach [e] env = (false, eval e env) :: starEach [] env)
    (hint : ∀ L : Addr, interactive (envF (xF name qual params st1 st2 scope cc cda) f L) = false)
    (hsw : ∀ L : Addr, swapsWith (.Call (.Attribute (.Call (.Name "super" p0) [] [] p1) "__init__" p2) [e] [] pos) none pos'.line (envF (xF name qual params st1 st2 scope cc cda) f L) = pure false)
    (hZ : ∀ (A : Around) (outer : List Env) (s : Shared) (H : Hp) (E : XK), SupX (ncx CX P w K mg base N (xF name qual params st1 st2 scope cc cda) f A outer s H E) C f cc cda me)
    (hbody : ∀ (A : Around) (outer : List Env) (s : Shared) (H : Hp) (vs : List V) (Q : VK) (E : XK), Room k (A.deeper (envF (xF name qual params st1 st2 scope cc cda) f s.heap.objs.size)) → sp vs H Q E →
      ∃ (a : Addr) (ta : TA) (t2 : TS), vs[0]? = some (.ref a) ∧ H a = some (exo a C none) ∧ PA (ncx CX P w K mg base N (xF name qual params st1 st2 scope cc cda) f A outer s H E) [e] ta ∧ PSs (ncx CX P w K mg base N (xF name qual params st1 st2 scope cc cda) f A outer s H E) [st2] t2 ∧
        ∀ u, H u = none → ta (startF N vs [some (.ref C)]) (upd H u (mwO u a)) fun ws H1 => H1 = upd H u (mwO u a) ∧ ws.length ≤ 1000 ∧ t2 { nx := fun _ H' => Q .non H', rt := Q } (startF N vs [some (.ref C)]) H1) :
    FnOk P w K mg base CX (k + 1) f (PySem.W.fnX name qual params [st1, st2] scope [("__class__", cc)] dV kV doc pm an (.ref cda) ct) ps sp := by
  refine ⟨len, fun A outer s H aa us vs Q E hr e0 hb r hsp => ?_⟩
  have hl := len _ _ _ _ hsp
  have KX : K.In s.heap := e0.mod.kin.keeps fun b o z => (e0.bs b o z).1
  have lim : s.heap.NoLimit := e0.mod.nolimit.keeps fun b o z => (e0.bs b o z).1
  refine PySem.ks_codeAny_call_defAt hr.depth (KX _ _ lk) rfl lim (PySem.W.codeRec_of KX hcd) rfl hb S.nocell (fun ⟨n, _⟩ hy => S.par n (List.of_mem_zip hy).1) (fun h₁ hns kp => ?_) S.co S.gen S.kind
  obtain ⟨ol, lo, hol⟩ := ccK
  have C1 : CellsAt (xF name qual params st1 st2 scope cc cda).cl ["__class__"] [some (.ref C)] s.heap H := by
    have only : ∀ {y : Str} {c : Addr}, ([("__class__", cc)] : List (Str × Addr)).lookup y = some c → y = ("__class__" : Str) ∧ c = cc := fun {y c} h => by
      by_cases z : y = ("__class__" : Str)
      · subst z
        rw [List.lookup_cons_self] at h
        exact ⟨rfl, (Option.some.inj h).symm⟩
      · rw [List.lookup_cons, show (y == ("__class__" : Str)) = false from beq_eq_false_iff_ne.mpr z] at h
        cases h
    have hb0 : base.get? cc = some ol := e0.mod.kin _ _ lo
    obtain ⟨hc1, hc2⟩ := e0.bs _ _ hb0
    have cell : s.heap.IsCell cc (some (.ref C)) := ⟨ol, hc1, hol⟩
    refine ⟨rfl, fun y c h => ?_, fun x y c h1 h2 => (only h1).1.trans (only h2).1.symm, fun i y h => ?_⟩
    · obtain ⟨_, rfl⟩ := only h
      exact ⟨hc2, _, cell⟩
    · cases i with
      | zero =>
        cases h
        exact ⟨cc, List.lookup_cons_self, fun v hv => by
          cases hv
          exact ⟨_, rfl, cell⟩⟩
      | succ i => cases h
  have I : Inv (ncx CX P w K mg base N (xF name qual params st1 st2 scope cc cda) f A outer s H E) [] (startF N vs [some (.ref C)]) H { s with heap := h₁, toks := s.toks + (ps.zip us).length } := inv_startN S hr.hd e0 hl r C1 hns kp
  obtain ⟨a, ta, t2, hv0, ea, ha, h2, hta⟩ := hbody A outer s H vs Q E (hr.deeper _) hsp
  subst hst
  have hs0 : (startF N vs [some (.ref C)])[0]? = some (some (.ref a)) := by
    unfold startF
    cases vs with
    | nil => cases hv0
    | cons v vs =>
      cases hv0
      rfl
  have fin : ∀ {s' : Shared} {σ' : L2.St} {H' : Hp} {v : V} {u : Value}, Inv (ncx CX P w K mg base N (xF name qual params (.Expr (.Call (.Attribute (.Call (.Name "super" p0) [] [] p1) "__init__" p2) [e] [] pos) pos') st2 scope cc cda) f A outer s H E) [] σ' H' s' → L2.RelV v u → Q v H' → CE outer P w H s Q u s' := fun {s' σ' H' v u} J rv q => ⟨v, H', J.os, J.bare, J.base, J.hok, rv, q⟩
  obtain ⟨pl, hc⟩ := hcall (envF (xF name qual params (.Expr (.Call (.Attribute (.Call (.Name "super" p0) [] [] p1) "__init__" p2) [e] [] pos) pos') st2 scope cc cda) f s.heap.objs.size)
  refine PySem.ks_wpAt_execs_cons (PySem.ks_wpAt_Expr_any (PySem.ks_wpAt_mono (sup_init (hZ A outer s H E) T I ea h0 hs0 ha (Q := fun _ H1 => t2 { nx := fun _ H' => Q .non H', rt := Q } (startF N vs [some (.ref C)]) H1) hta hc (hstar _)) (fun v s1 h1 => ?_) fun _ _ z => z) (hint _) (hsw _))
  obtain ⟨y, H1, I1, _, q1⟩ := h1
  refine PySem.wpAt_of_wpAny (wpAny_mono (h2.run [] _ _ H1 _ I1 q1) (fun fl s2 hs => ?_) fun e s2 hs => hs)
  cases fl with
  | ret u =>
    obtain ⟨z, σ', H', J, rv, q⟩ := hs
    exact fin J rv q
  | next =>
    obtain ⟨σ', H', J, q⟩ := hs
    exact fin (u := Value.none) (v := V.non) J rfl q
  | brk =>
    obtain ⟨_, _, _, q⟩ := hs
    exact False.elim q
  | cont =>
    obtain ⟨_, _, _, q⟩ := hs
    exact False.elim q
end
end Tc
/-! exceptions whose context is None: made, raised, let through -/
namespace Tc
open PySem PySem.Spec PyProof.Rows L2
/-- a def that may let an exception out -/
def OwnX (P : Program) (w : World) (K : PySem.W.Frag) (mg : Str → Option Value) (base : Heap) (x : Str) (ps : List Str) (k : Nat) (sp : Sp) : Prop :=
  ∃ (f : Addr) (fd : FuncData), FnOk P w K mg base (L2N.CX P w) k f fd ps sp ∧ mg x = some (.ref f) ∧ PySem.W.keepIn K (.ref f) = true ∧ Binds K fd ps []
section
variable {P : Program} {w : World} {K : PySem.W.Frag} {mg : Str → Option Value} {base : Heap}
theorem okN {x qual : Str} {st : Stmt} {f : Addr} {fd : FuncData} {N ps : List Str} {k : Nat} {sp : Sp} (F : Fun K x qual st f fd) (S : FnScope N ps (defScope st)) (len : ∀ vs H Q E, sp vs H Q E → vs.length = ps.length)
    (hb : ∀ (cdv : Value) (A : Around) (outer : List Env) (s : Shared) (H : Hp) (vs : List V) (Q : VK) (E : XK), Room k (A.deeper (envOfC qual (defScope st) s.heap.objs.size f cdv)) → sp vs H Q E →
      ∃ t, PSs (cxOf (L2N.CX P w) P w K mg base N qual (defScope st) f cdv A outer s H E) (defBody st) t ∧ t { nx := fun _ H' => Q .non H', rt := Q } (start N vs) H) : FnOk P w K mg base (L2N.CX P w) (k + 1) f fd ps sp := by
  obtain ⟨_, _, _, _, _, _, cdv, _, _, rfl, lk, hcd⟩ := F.ex
  exact fn_of lk hcd S len fun A outer s H vs Q E hr z => hb cdv A outer s H vs Q E hr z
end
section
variable {X : Cx}
theorem none_out : L2N.Takes X (fun _ _ _ _ => False) := fun _ _ ⟨_, _, _, _, _, _, _, _, _, _, _, _, _, _, _, _, z⟩ => z.elim
theorem pe_ownX {W : WX} {x : Str} {ps : List Str} {k j : Nat} {sp : Sp} {e : Expr} {es : List Expr} {t : TA} {p pos : Pos} (d : OwnX X.prog X.w X.K X.mg X.base x ps k sp) (tk : L2N.Takes X W) (hr : Room j X.A) (hj : k ≤ j) (hg : Gl X x) (ha : PA X (e :: es) t)
    (he : starEach (e :: es) X.env = (false, eval e X.env) :: starEach es X.env := by rfl) (hdb : (x == ("__debug__" : Str)) = false := by decide) (hpl : (backTo pos (starEach es X.env)).any (·.1) = false := by rfl) :
    PE X (.Call (.Name x p) (e :: es) [] pos) (tCallS sp (WE W) t) := by
  obtain ⟨f, fd, F, hm, hk, hb⟩ := d
  exact pe_callS F (hr.mono hj) hg hm hk hb (fun σ => L2N.passAt tk σ) ha hdb he hpl
set_option maxHeartbeats 2000000 in
/-- C(e, ..) of an own __init__, the context None -/
theorem pmkN {CX : CXT} {x : Str} {e : Expr} {es : List Expr} {ta : TA} {p pos : Pos} {C fI : Addr} {k : Nat} {fd : FuncData} {ps : List Str} {sp : Sp} (T : OexC X.K C) (iC : PySem.W.findIn X.K (.ref C) "__init__" = some (some (.ref fI))) (tI : PySem.W.typeIn X.K (.ref fI) = some (.type "function"))
    (F1 : FnOk X.prog X.w X.K X.mg X.base CX k fI fd ps sp) (hr : Room (k + 1) X.A) (hb : Binds X.K fd ps []) (hx : Passes CX X (fun _ _ _ => False)) (hg : Gl X x) (hm : X.mg x = some (.ref C)) (ha : PA X (e :: es) ta)
    (hdb : (x == ("__debug__" : Str)) = false := by decide)
    (he : starEach (e :: es) X.env = (false, eval e X.env) :: starEach es X.env := by rfl) (hpl : (backTo pos (starEach es X.env)).any (·.1) = false := by rfl) :
    L2N.PMk X (.Call (.Name x p) (e :: es) [] pos) (tMkO C sp [] ta) := by
  intro pins s σ H Q I h
  have T0 := T.cls
  rcases T0 with ⟨_, _, _, _, bm, _, _, _, _, _, _, _, _, _, _, hC, vb⟩
  refine wpAny_Call_Name_kw (ld_glob I hg hm ?_ hdb)
  refine PySem.W.callWith_K (h₀ := X.base) I.mod.kin T.kC (thn (ha.run pos pins s σ H _ I h) fun us s1 z => ?_) he hpl
  rcases z with ⟨vs, H1, I1, r1, _, q1⟩
  refine ⟨I1.kIn, (?_ : wpAny _ _ (call (.ref C) us) _ _ _)⟩
  rcases s1 with ⟨h1, gs, dr, tk, os⟩
  have lt : h1.objs.size ≤ h1.objs.size + 1 := Nat.le_succ _
  have qa := q1 (h1.objs.size + 1) (I1.hok.fresh lt)
  rw [List.append_nil] at qa
  obtain ⟨h2, e2⟩ : ∃ h2 : Heap, h2 = (h1.push (PySem.W.kdv_tup us)).push (PySem.HandSPX.excO C h1.objs.size) := ⟨_, rfl⟩
  have kk : ∀ b o, h1.get? b = some o → h2.get? b = some o := fun b o z => by
    rw [e2]
    exact Heap.get?_push_of_some _ (Heap.get?_push_of_some _ z)
  have at1 : h2.get? (h1.objs.size + 1) = some (PySem.HandSPX.excO C h1.objs.size) := by
    rw [e2]
    heap_get
  have I2 : Inv X pins σ (upd H1 (h1.objs.size + 1) (exo (h1.objs.size + 1) C none)) ⟨h2, gs, dr, tk, os⟩ := I1.laid (t' := tk) kk lt (exo_ok at1)
  have r2 : Vals (.ref (h1.objs.size + 1) :: vs) (.ref (h1.objs.size + 1) :: us) := .cons rfl r1
  have few : us.length ≤ sizeLine := by
    have a := r1.length
    have b := F1.len _ _ _ _ qa
    rename_i c
    rw [← a, sizeLine_eq]
    omega
  have B := hb ⟨h2, gs, dr, tk, os⟩ (.ref (h1.objs.size + 1) :: us) I2.kIn (by
    rw [List.append_nil, ← r2.length]
    exact F1.len _ _ _ _ qa)
  rw [List.append_nil] at B
  rw [e2] at I2 B
  refine wpAny_call (PySem.HandSPX.call_own F.excBase_ValueError (fun Y => PySem.HandSPX.refsVE_contains Y bm vb) (I1.kIn _ _ hC) (PySem.W.looks_findIn I1.kIn iC) (fun a => PySem.W.bind_fn I1.kIn a tI) few (codeAny_mono (F1.run _ X.stack _ _ ⟨_, []⟩ _ _ _ (fun _ _ _ => False) (hr.make C us []) (I2.env0.make C us []) B r2 qa) fun r s' z => ?_))
  cases r with
  | error u => exact hx pins σ _ _ u s' I2 z
  | ok fl =>
    cases fl with
    | ret u =>
      rcases z with ⟨v, H2, o2, b2, u2, k2, rv, ev, d, fs, ea, ed, d1, q2⟩
      subst ev
      rcases s' with ⟨h3, g3, d3, t3, o3⟩
      rw [← e2] at u2
      have M := mk_end0 (d2 := d3) (t2 := t3) I1 lt kk u2 k2 o2 b2 ea ed d1
      rcases M with ⟨t0, G, J, kG, ge, hoe, na⟩
      exact ⟨rv, _, _, _, ⟨G, g3, d3, t3, o3⟩, _, .ref C, some d, rfl, J, kG, ge, hoe, ⟨rfl, rfl, fun ws hw => by
        cases hw
        rfl⟩, rfl, rfl, na, rfl, b2, raises_own T.exC T.tyC, q2⟩
    | next => exact z.elim
    | brk => exact z.elim
    | cont => exact z.elim
end
end Tc
/-! defs called in an except suite, what is known of the exception handed to them -/
namespace Tc
open PySem PySem.Spec PyProof.Rows L2 L2H
/-- a promise by the exception that is handled -/
abbrev SpP := Addr × Obj → Sp
structure FnP (P : Program) (w : World) (K : PySem.W.Frag) (mg : Str → Option Value) (base : Heap) (CX : CXT) (k : Nat) (f : Addr) (fd : FuncData) (ps : List Str) (sp : SpP) : Prop where
  len : ∀ p vs H Q E, sp p vs H Q E → vs.length = ps.length
  run : ∀ (A : Around) (outer : List Env) (s : Shared) (H : Hp) (as : Args) (us : List Value) (vs : List V) (Q : VK) (E : XK) (p : Addr × Obj), RoomH k A → Hot1 A p → PinOk outer H s p → Env0 P w K mg base A outer s H → BindsTo s fd as (ps.zip us) → Vals vs us → sp p vs H Q E →
    codeAny (model P w) A (.call (.ref f) as) (CR CX outer P w H s Q E) s
/-- by its name -/
def OwnP (P : Program) (w : World) (K : PySem.W.Frag) (mg : Str → Option Value) (base : Heap) (x : Str) (ps : List Str) (k : Nat) (sp : SpP) : Prop :=
  ∃ (f : Addr) (fd : FuncData), FnP P w K mg base CX0 k f fd ps sp ∧ mg x = some (.ref f) ∧ PySem.W.keepIn K (.ref f) = true ∧ Binds K fd ps []
section
variable {CX : CXT} {P : Program} {w : World} {K : PySem.W.Frag} {mg : Str → Option Value} {base : Heap}
theorem okP {x qual : Str} {st : Stmt} {f : Addr} {fd : FuncData} {N ps : List Str} {k : Nat} {sp : SpP} (F : Fun K x qual st f fd) (S : FnScope N ps (defScope st)) (len : ∀ p vs H Q E, sp p vs H Q E → vs.length = ps.length)
    (hb : ∀ (cdv : Value) (A : Around) (outer : List Env) (s : Shared) (H : Hp) (vs : List V) (Q : VK) (E : XK) (p : Addr × Obj), Hot1 A p → RoomH k (A.deeper (envOfC qual (defScope st) s.heap.objs.size f cdv)) → sp p vs H Q E →
      ∃ t, PSs (cxH CX P w K mg base N qual (defScope st) f cdv A outer s H E p) (defBody st) t ∧ t { nx := fun _ H' => Q .non H', rt := Q } (L2.start N vs) H) :
    FnP P w K mg base CX (k + 1) f fd ps sp := by
  obtain ⟨_, _, _, _, _, _, cdv, _, _, rfl, lk, hcd⟩ := F.ex
  refine ⟨len, fun A outer s H as us vs Q E p hr hot hpin e0 hbd r z => ?_⟩
  have kb : ∀ b o, base.get? b = some o → s.heap.get? b = some o := fun b o y => (e0.bs b o y).1
  have KX := e0.mod.kin.keeps kb
  have lim := e0.mod.nolimit.keeps kb
  refine codeAny_call_function hr.depth (KX _ _ lk) rfl S.co S.gen rfl (PySem.W.codeRec_of KX hcd) (hbd _ _ _ _ (wpAny_newFunctionEnv_cells S.kind (fun y hy => ?_) fun env he s1 x => ?_))
  · exact (S.par y.1 (List.of_mem_zip hy).1).imp id fun q => ⟨q, PySem.W.cellsFrom_some _ _ _ (.inl q)⟩
  · cases he
    have kept := lim.keeps x.toInCall.keep
    refine ⟨kept, codeAny_func ?_⟩
    obtain ⟨t, ht, hq⟩ := hb cdv A outer s H vs Q E p hot (hr.deeper _) z
    have I0 : Inv (cxH CX P w K mg base N qual (defScope st) f cdv A outer s H E p) [] (L2.start N vs) H s1 := inv_startH S hpin e0 (len _ _ _ _ _ z) r x
    refine wpAny_mono (ht.run [] s1 _ H _ I0 hq) (fun fl s' y => ?_) fun u s' y => y
    match fl, y with
    | .ret u, ⟨v, _, H', J, rv, q⟩ => exact (⟨v, H', J.os, J.bare, J.base, J.hok, rv, q⟩ : CE outer P w H s Q u s')
    | .next, ⟨_, H', J, q⟩ => exact (⟨.non, H', J.os, J.bare, J.base, J.hok, rfl, q⟩ : CE outer P w H s Q .none s')
    | .brk, ⟨_, _, _, q⟩ => exact q.elim
    | .cont, ⟨_, _, _, q⟩ => exact q.elim
end
section
variable {X : Cx}
/-- the exception stands pinned in X -/
def HotP (X : Cx) (p : Addr × Obj) : Prop := Hot1 X.A p ∧ p ∈ X.pn
theorem HotP.c {p : Addr × Obj} (h : HotP X p) : HotC X := ⟨p, h.1, h.2⟩
theorem pe_ownP {x : Str} {ps : List Str} {k j : Nat} {sp : SpP} {pt : Addr × Obj} {e : Expr} {es : List Expr} {t : TA} {p pos : Pos} (d : OwnP X.prog X.w X.K X.mg X.base x ps k sp) (hp : HotP X pt) (hr : RoomH j X.A) (hj : k ≤ j) (hg : Gl X x) (ha : PA X (e :: es) t)
    (he : starEach (e :: es) X.env = (false, eval e X.env) :: starEach es X.env := by rfl) (hdb : (x == ("__debug__" : Str)) = false := by decide) (hpl : (backTo pos (starEach es X.env)).any (·.1) = false := by rfl) :
    PE X (.Call (.Name x p) (e :: es) [] pos) (tCall (sp pt) [] E0 t) := by
  obtain ⟨f, fd, F, hm, hk, hb⟩ := d
  refine ⟨fun pins s σ H Q I h => ?_⟩
  refine wpAny_Call_Name_kw (ld_glob I hg hm ?_ hdb)
  refine PySem.W.callWith_K (h₀ := X.base) I.mod.kin hk (thn (ha.run pos pins s σ H _ I h) fun us s1 z => ?_) he hpl
  obtain ⟨vs, H1, I1, r, q⟩ := z
  rw [List.append_nil] at q
  have b := hb s1 us I1.kIn (by
    rw [List.append_nil, ← r.length]
    exact F.len _ _ _ _ _ q)
  rw [List.append_nil] at b
  have y := I1.pin pt (List.mem_append_left _ hp.2)
  refine ⟨I1.kIn, wpAny_call (codeAny_mono (F.run X.A X.stack s1 H1 ⟨us, []⟩ us vs Q E0 pt (hr.mono hj) hp.1 ⟨y.1, y.2.1, fun m => ?_, y.2.2.2.2⟩ I1.env0 b r q) fun r' s' z => ?_)⟩
  · rcases List.mem_cons.mp (I1.stkSub pt.1 m) with m | m
    · exact y.2.2.1 m
    · exact y.2.2.2.1 m
  · match r', z with
    | .ok (.ret u), z => exact I1.after z
/-- what is to be known of the class D -/
structure ExK (K : PySem.W.Frag) (D : Addr) : Prop where
  cl : (PySem.W.clsIn K D).isSome = true
  ga : PySem.W.findIn K (.ref D) "__getattribute__" = some (some (.builtin "BaseException.__getattribute__"))
  gt : PySem.W.findIn K (.ref D) "__getattr__" = some none
  sb : PySem.W.subIn K (.ref D) (.type "BaseException") = some true
  ca : PySem.W.findIn K (.ref D) "__class__" = some (some (.builtin "object.__class__"))
  cg : PySem.W.specialIn K (.builtin "object.__class__") "__get__" = some (some (.builtin "getset_descriptor.__get__"))
  tc : PySem.W.takesIn K (.builtin "object.__class__") = some true
  mo : PySem.W.mroIn K D (.type "object") = some true
/-- the exception pinned at p is of the class D, its dict d -/
structure IsEx (D : Addr) (d : Option Addr) (p : Addr × Obj) : Prop where
  cl : p.2.cls = .ref D
  di : p.2.dict = d
  fs : ∃ vs, p.2.data = .fields vs
/-- isinstance(e, c) of the pinned one; its dict, if it has one, stands tracked -/
def rIsP (K : PySem.W.Frag) (D : Addr) (d : Option Addr) (p : Addr × Obj) : List V → Hp → VK → Prop := fun xs H Q => ∃ (c : V) (cv : Value) (b : Bool), xs = [.ref p.1, c] ∧ (∀ u, RelV c u → u = cv) ∧ (∀ a, d = some a → ∃ fs, H a = some (.xd fs)) ∧ PySem.W.kitOne K (.ref D) cv = some b ∧ Q (.bl b) H
theorem call_isP {D : Addr} {d : Option Addr} {p : Addr × Obj} (C : ExK X.K D) (hp : p ∈ X.pn) (hx : IsEx D d p) : CallR X (.builtin "isinstance") (rIsP X.K D d p) := by
  intro pins s σ H xs us Q I r h
  obtain ⟨c, cv, b, rfl, hcv, hd, e, q⟩ := h
  match us, r with
  | [_, u], .cons r1 (.cons r2 .nil) =>
    cases r1
    have ec := hcv u r2
    subst ec
    have y := (I.pin p (List.mem_append_left _ hp)).1
    obtain ⟨vs, hv⟩ := hx.fs
    have nc : PySem.W.notCls p.2 = true := by
      unfold PySem.W.notCls
      rw [hv]
    have J : ∃ od, PySem.W.InstAt s.heap p.1 p.2 D od := by
      cases d with
      | none => exact ⟨none, y, hx.cl, nc, by
          rw [hx.di]
          trivial⟩
      | some a =>
        obtain ⟨fs, hd⟩ := hd a rfl
        have hz : ObjOk X.prog X.w H s.heap a (.xd fs) := I.hok a _ hd
        obtain ⟨mA, hns, _⟩ := hz
        obtain ⟨od, ho, _⟩ := lookIn_ns hns
        exact ⟨some od, y, hx.cl, nc, by
          rw [hx.di]
          exact ho⟩
    obtain ⟨od, J⟩ := J
    exact PySem.W.kia_one (PySem.W.kitx_exc C.cl C.ga C.gt C.sb C.ca C.cg C.tc C.mo) I.kIn J e (fun z => nomatch z) fun tk => ⟨.bl b, H, I.kept (t' := tk) fun _ _ z => z, rfl, q⟩
end
end Tc
/-! a list comprehension in a def that an except suite calls -/
namespace Tc
open PySem PySem.Spec PyProof.Rows L2 L2H
/-- the block, the exception pinned in it -/
abbrev blkH (X : Cx) (s : Shared) (H : Hp) (sc : Scope) (ce : Env) (fp : List Addr) (pt : Addr × Obj) : Cx := { X.blk s H sc ce fp with pn := [pt] }
section
variable {X : Cx} {pins : List (Addr × Obj)} {σ : L2.St} {H : Hp} {s : Shared} {pt : Addr × Obj}
theorem inv_blkH {sc : Scope} {own : List (Str × Nat)} {fp : List Addr} (I : Inv X pins σ H s) (ok : BlkOk X.N X.env.scope sc own) (hN : X.N.Nodup) (hp : pt ∈ X.pn) (hf : ∀ b ∈ fp, FpOk X pins H b ∧ b < s.heap.objs.size) :
    Inv (blkH X s H sc (compEnvC sc (cellsFrom (s.heap.objs.size + 1) sc.names (cloFrom X.env.cells sc.names [])) s.heap.objs.size X.env) fp pt) [] (wipe σ (own.map (·.2))) H { s with heap := pushCells (s.heap.push { cls := .type "dict", data := .dict #[] }) sc.names } := by
  have J := block_start I ok hN hf
  have y := I.pin pt (List.mem_append_left _ hp)
  have o := J.ok
  refine ⟨⟨o.mod, o.kind, o.glob, o.blt, o.above, o.inj, o.has, o.cab, o.hd, o.frames, o.stk, o.exf, o.bs, o.bsz, o.noex, o.exfs, o.funs, o.frf⟩, J.os, J.bare, J.base, J.loc, J.cell, J.free, J.freeC, fun q hq => ?_, J.hok, J.len⟩
  have e : q = pt := by simpa using (show q ∈ [pt] ++ ([] : List (Addr × Obj)) from hq)
  subst e
  refine ⟨pushCells_keeps _ _ _ _ (Heap.get?_push_of_some _ y.1), y.2.1, Nat.ne_of_lt (Heap.lt_size y.1), fun m => ?_, y.2.2.2.2⟩
  rcases List.mem_cons.mp (I.stkSub q.1 m) with m | m
  · exact y.2.2.1 m
  · exact y.2.2.2.1 m
end
section
variable {X : Cx} {pt : Addr × Obj}
set_option maxHeartbeats 2000000 in
theorem pe_lcH {elt tg iter : Expr} {ifs : List Expr} {sc : Scope} {own : List (Str × Nat)} {pos : Pos} {wi : TI} {g : TG} {tt : TT} {te : TE} (hp : HotP X pt) (hN : X.N.Nodup) (hi : PIH X tg iter wi) (ok : BlkOk X.N X.env.scope sc own)
    (hg : ∀ (s : Shared) (H : Hp) (C : Addr) (cl : List (Str × Addr)) (fp : List Addr), PG (blkH X s H sc (compEnvC sc cl C X.env) fp pt) tg g) (ht : ∀ (s : Shared) (H : Hp) (C : Addr) (cl : List (Str × Addr)) (fp : List Addr), PTs (blkH X s H sc (compEnvC sc cl C X.env) fp pt) ifs tt)
    (he : ∀ (s : Shared) (H : Hp) (C : Addr) (cl : List (Str × Addr)) (fp : List Addr), PE (blkH X s H sc (compEnvC sc cl C X.env) fp pt) elt te) (hs : ∀ x, foldedSetIterable iter X.env x = pure x := by intro _; rfl) :
    PE X (.ListComp elt [⟨tg, iter, ifs, 0⟩] sc pos) (tLc wi g tt te (own.map (·.2))) := by
  refine ⟨fun pins s σ H Q I h => ?_⟩
  rw [eval_ListComp]
  have fr : ∀ y ∈ sc.names, y.2 = .free → ∃ c, X.env.cells.lookup y.1 = some c := fun y hy e => I.ok.has _ (ok.free y hy e)
  refine wpAny_comprehension_free (use := none) rfl hs (closure_ok fr) ok.kind (fun y hy e => (ok.uniq y hy).trans (congrArg some e)) (thn (hi.run pins s σ H _ I h) fun xv s1 hx => thn hx fun iv s2 z => ?_)
  obtain ⟨it, fp, tn, J, H2, ei, I2, T, t2, f2, q⟩ := z
  subst ei
  refine wpAny_newObj_type (newEnv_comp ?_) (Nat.zero_le _)
  have nD : H2 s2.heap.objs.size = none := I2.hok.fresh (Nat.le_refl _)
  have J3 : Inv X pins σ (upd H2 s2.heap.objs.size (.lst [])) { s2 with heap := s2.heap.push { cls := .type "list", data := .seq ([] : List Value).toArray } } :=
    I2.laid (t' := s2.toks) (fun b o e => Heap.get?_push_of_some _ e) (Nat.le_refl _) ⟨Nat.zero_le _, [], 0, .nil, Heap.get?_push_size _ rfl⟩
  have fpl : ∀ b ∈ fp, b < s2.heap.objs.size := fun b hb => by
    obtain ⟨o, e, _⟩ := T.obj _ _ t2 b hb
    exact Heap.lt_size e
  have f3 : ∀ b ∈ fp, FpOk X pins (upd H2 s2.heap.objs.size (.lst [])) b ∧ b < (s2.heap.push { cls := .type "list", data := .seq ([] : List Value).toArray }).objs.size := fun b hb =>
    ⟨⟨(upd_ne (Nat.ne_of_lt (fpl b hb))).trans (f2 b hb).1, (f2 b hb).2⟩, by
      rw [Heap.size_push]
      exact Nat.lt_succ_of_lt (fpl b hb)⟩
  have t3 : tn 0 (s2.heap.push { cls := .type "list", data := .seq ([] : List Value).toArray }) := T.keep _ _ _ t2 fun b _ o e => Heap.get?_push_of_some _ e
  obtain ⟨W, ⟨m0, w0⟩, turn⟩ := q _ nD
  generalize s2.heap.objs.size = D at *
  generalize upd H2 D (.lst []) = H3 at *
  obtain ⟨s3, e3⟩ : ∃ s3 : Shared, s3 = { s2 with heap := s2.heap.push { cls := .type "list", data := .seq ([] : List Value).toArray } } := ⟨_, rfl⟩
  have e3h : s3.heap = s2.heap.push { cls := .type "list", data := .seq ([] : List Value).toArray } := by rw [e3]
  rw [← e3] at J3 ⊢
  rw [← e3h] at f3 t3
  have J4 := inv_blkH J3 ok hN hp.2 f3
  have pg := hg s3 H3 s3.heap.objs.size (cellsFrom (s3.heap.objs.size + 1) sc.names (cloFrom X.env.cells sc.names [])) fp
  have ps := ht s3 H3 s3.heap.objs.size (cellsFrom (s3.heap.objs.size + 1) sc.names (cloFrom X.env.cells sc.names [])) fp
  have pe := he s3 H3 s3.heap.objs.size (cellsFrom (s3.heap.objs.size + 1) sc.names (cloFrom X.env.cells sc.names [])) fp
  have t4 : tn 0 (pushCells (s3.heap.push { cls := .type "dict", data := .dict #[] }) sc.names) := T.keep _ _ _ t3 fun b _ o e => pushCells_keeps _ _ _ _ (Heap.get?_push_of_some _ e)
  show codeAny _ _ (.compStart (.ListComp elt [⟨tg, iter, ifs, 0⟩] sc pos) 0 (.ref it) (.ref D) (compEnvC sc (cellsFrom (s3.heap.objs.size + 1) sc.names (cloFrom X.env.cells sc.names [])) s3.heap.objs.size X.env)) (compPost (model X.prog X.w) X.A X.xe none _ (.ref D) s3.heap.objs.size) { s3 with heap := pushCells (s3.heap.push { cls := .type "dict", data := .dict #[] }) sc.names }
  obtain ⟨ce, hce⟩ : ∃ ce, ce = compEnvC sc (cellsFrom (s3.heap.objs.size + 1) sc.names (cloFrom X.env.cells sc.names [])) s3.heap.objs.size X.env := ⟨_, rfl⟩
  have loc : ce.locals = s3.heap.objs.size := by
    rw [hce]
    rfl
  rw [← hce] at J4 pg ps pe ⊢
  obtain ⟨s4, e4⟩ : ∃ s4 : Shared, s4 = { s3 with heap := pushCells (s3.heap.push { cls := .type "dict", data := .dict #[] }) sc.names } := ⟨_, rfl⟩
  have e4h : s4.heap = pushCells (s3.heap.push { cls := .type "dict", data := .dict #[] }) sc.names := by rw [e4]
  rw [← e4h] at t4
  rw [← e4] at J4 ⊢
  obtain ⟨Y, hY⟩ : ∃ Y, Y = blkH X s3 H3 sc ce fp pt := ⟨_, rfl⟩
  have hot : HotC Y := by
    rw [hY]
    exact ⟨pt, hp.1, List.mem_singleton.mpr rfl⟩
  have foot : ∀ {σ' : L2.St} {H' : Hp} {s' : Shared}, Inv Y [] σ' H' s' → (∀ b ∈ fp, H' b = none) → ∀ b ∈ fp, FpOk Y [] H' b := fun {σ' H' s'} I' hn b hb => by
    subst hY
    refine ⟨hn b hb, (I'.ok.exf b hb).1, I'.ok.exfs b hb, .inl hb, (I'.ok.exf b hb).2, fun q hq => ?_⟩
    have e : q = pt := by simpa using (show q ∈ [pt] ++ ([] : List (Addr × Obj)) from hq)
    subst e
    exact (f2 b hb).2.2.2.2.2 q (List.mem_append_left _ hp.2)
  have loop : codeAny (model X.prog X.w) X.A (.compLoop (.ListComp elt [⟨tg, iter, ifs, 0⟩] sc pos) 0 (.ref it) (.ref D) ce) (compPost (model X.prog X.w) X.A X.xe none (EP X pins σ Q) (.ref D) s3.heap.objs.size) s4 := by
    refine compLoop_any (fun n s' => ∃ i H', Inv Y [] (wipe σ (own.map (·.2))) H' s' ∧ tn i s'.heap ∧ (∀ b ∈ fp, H' b = none) ∧ W i n H') ?_ m0 ⟨0, H3, by rw [hY]; exact J4, t4, fun b hb => (f3 b hb).1.1, w0⟩
    rintro n s5 ⟨i, H5, J5, t5, n5, w5⟩
    have P1 : Y.prog = X.prog := by rw [hY]
    have P2 : Y.w = X.w := by rw [hY]
    have P3 : Y.K = X.K := by rw [hY]
    have P4 : Y.A = X.A := by rw [hY]
    rcases turn i n H5 w5 with ⟨halt, qq⟩ | ⟨go, Nx, hNx, step⟩
    · have td := T.done Y P1 P2 P3 hot i [] s5 _ H5 (fun _ _ => False) J5 (foot J5 n5) t5 halt
      rw [P4] at td
      refine thnF td fun r s6 y => ?_
      obtain ⟨hr, J6⟩ := y
      subst hr hY
      have J7 : Inv X pins σ H5 s6 := J3.call' (ch := fp) J6.os J6.base J6.hok J6.bare fun b hb => ⟨(f3 b hb).1.2.2.2.1, (f3 b hb).1.2.1, (f3 b hb).1.2.2.2.2.1, (f3 b hb).1.2.2.2.2.2⟩
      have nC : H5 s3.heap.objs.size = none := loc ▸ (J6.free : H5 ce.locals = none)
      obtain ⟨m, hn, _⟩ := J6.loc
      replace hn : s6.heap.Ns ce.locals m := hn
      rw [loc] at hn
      obtain ⟨a0, a1, a2, a3, a4, a5⟩ := J3.fpOk (b := s3.heap.objs.size) (Nat.le_refl _) nC
      exact ⟨m, hn, fun h' sb => ⟨.ref D, H5, J7.turned (t' := s6.toks) (fun b o hb e => (sb.2 b hb).trans e) a0 a1 a3 a4 a5, rfl, qq⟩⟩
    · have ti := T.item Y P1 P2 P3 hot i [] s5 _ H5 (fun _ _ => False) J5 (foot J5 n5) t5 go
      rw [P4] at ti
      refine thnF ti fun r s6 y => ?_
      obtain ⟨u, hr, y⟩ := y
      subst hr
      refine thnF y fun _ s7 y => ?_
      obtain ⟨x, H7, J7, r7, y7, t7, n7⟩ := y
      have J7' := J7.pinned (foot J7 n7) (T.obj _ _ t7)
      subst hY
      refine thnF (pg.run _ s7 _ H7 x u _ J7' r7 (step x H7 y7)) fun _ s8 y => ?_
      obtain ⟨σ8, H8, J8, hw, q8⟩ := y
      refine thnF (ps.run _ s8 σ8 H8 _ J8 q8) fun b s9 y => ?_
      obtain ⟨H9, J9, q9⟩ := y
      have fin : ∀ {s' : Shared} {H' : Hp}, Inv (blkH X s3 H3 sc ce fp pt) ([] ++ pinsAt fp s7.heap) σ8 H' s' → Nx H' → ∃ m, m < n ∧ ∃ i H', Inv (blkH X s3 H3 sc ce fp pt) [] (wipe σ (own.map (·.2))) H' s' ∧ tn i s'.heap ∧ (∀ b ∈ fp, H' b = none) ∧ W i m H' := fun {s' H'} I' nx => by
        obtain ⟨m', hm', w'⟩ := hNx H' nx
        have pin : ∀ b ∈ fp, ∀ o, s7.heap.get? b = some o → s'.heap.get? b = some o ∧ H' b = none := fun b hb o e => by
          have z := I'.pin (b, o) (List.mem_append_right _ (List.mem_append_right _ (mem_pinsAt hb e)))
          exact ⟨z.1, z.2.1⟩
        refine ⟨m', hm', i + 1, H', (I'.unpinned (pins := [])).weak (by rw [← hw, wipe_length]) (fun j v e => ?_), T.keep _ _ _ t7 fun b hb o e => (pin b hb o e).1, fun b hb => ?_, w'⟩
        · exact (wipe_some (hw.symm ▸ e)).1
        · obtain ⟨o, e, _⟩ := T.obj _ _ t7 b hb
          exact (pin b hb o e).2
      cases b with
      | false => exact fin J9 (by simpa using q9)
      | true =>
        rw [if_pos rfl] at q9 ⊢
        refine thnF (pe.run _ s9 σ8 H9 _ J9 q9) fun v s10 y => ?_
        obtain ⟨yv, H10, J10, r10, acc, hD, hz, nx⟩ := y
        exact app_ok (X := blkH X s3 H3 sc ce fp pt) J10 hD hz r10 fun s11 J11 => fin J11 nx
  exact codeAny_compStart_list loop (T.self X.A 0 _ _ _ t4 loop)
end
end Tc
/-! a, b = x, y in an except suite -/
namespace Tc
open PySem PySem.Spec PyProof.Rows L2 L2H HotX
section
variable {prog : Program} {w : World} {A : Around} {E : Value → Shared → Prop} {s : Shared}
/-- StopIteration is made and let go while another exception is handled -/
theorem stop_hot {xa : Addr} {Q : Fin → Shared → Prop} (hot : HotAt A xa s.heap) (hE : ∀ (h' : Heap) (e : Addr), (∀ b o, s.heap.get? b = some o → h'.get? b = some o) → Shared.TypeIs { s with heap := h' } (.ref e) "StopIteration" → E (.ref e) { s with heap := h' }) :
    wpAny (model prog w) A Builtin.SmallTypes.stopIteration Q E s := by
  obtain ⟨hh, o1, v1, h1, d1, c1⟩ := hot
  show wpAny _ _ (newExc (.type "StopIteration") [] >>= _) _ _ _
  refine wpAny_bind ?_
  simp only [newExc, newTuple]
  refine wpAny_bind (wpAny_newObj_type ?_ (by size_fits))
  refine wpAny_bind (m := firstArgMember _ _) (wpAny_of_eq (a := Value.none) (by first | rfl | (simp only [firstArgMember]; rfl)) (wpAny_newObj_type ?_ (by size_fits)))
  refine raiseNew_hot ⟨hh, o1, v1, Heap.get?_push_of_some _ (Heap.get?_push_of_some _ h1), d1, c1⟩ (Nat.ne_of_lt (Heap.lt_size (Heap.get?_push_of_some _ h1))) (Heap.get?_push_size _ rfl) rfl (by first | (simp; done) | (simp; omega)) (hE _ _ (fun b o e => ?_) ⟨_, Heap.get?_update_self _ (Heap.get?_push_size _ rfl) rfl, rfl⟩)
  have lt := Heap.lt_size (Heap.get?_push_of_some { cls := .type "tuple", data := .seq ([] : List Value).toArray } e)
  rw [Heap.get?_update_other _ _ (Nat.ne_of_gt lt)]
  exact Heap.get?_push_of_some _ (Heap.get?_push_of_some _ e)
/-- a tuple's iterator at its end, an exception being handled -/
theorem tup_end_hot {it t xa : Addr} {i : Nat} {its : Array Value} {Q : Option Value → Shared → Prop} (hot : HotAt A xa s.heap) (hne : xa ≠ it) (hit : IsTupIter s.heap it t i) (ht : IsTup s.heap t its) (hx : its[i]? = none)
    (hQ : ∀ h', Heap.ExtBut it s.heap h' → Q none { s with heap := h' }) :
    wpAny (model prog w) A (pyNext (.ref it)) Q E s := by
  obtain ⟨hh, o1, v1, h1, d1, c1⟩ := hot
  obtain ⟨o, ho, hc, hd⟩ := (show IsTupIter s.heap it t i from hit)
  obtain ⟨ol, hol, _, nl, hl⟩ := ht
  unfold pyNext
  refine wpAny_bind (wpAny_attempt (wpAny_callSpecial?_slot (name := Str.ofString "__next__") hit.typeIs slot_tupleiter_next (wpAny_call_entry slot_tupleiter_next hit.typeIs entry_tupleiter_next (?_ : wpAny _ _ (field (.ref it) 0 >>= _) _ _ s) (args_tupleiter_next _))))
  refine wpAny_bind (wpAny_field ho hd (x := .ref t) rfl (?_ : wpAny _ _ (if (Value.ref t == Value.none) = true then _ else _) _ _ s))
  rw [if_neg (show ¬ (Value.ref t == Value.none) = true by simp)]
  refine (?_ : wpAny _ _ (field (.ref it) 1 >>= _) _ _ s)
  refine wpAny_bind (wpAny_field ho hd (x := .int i 0) rfl ?_)
  refine (?_ : wpAny _ _ (seqItems? (.ref t) >>= _) _ _ s)
  refine wpAny_bind (wpAny_seqItems hol hl ?_)
  simp only [Int.toNat_natCast, hx]
  refine wpAny_bind (wpAny_rule (wpAny_bind (wpAny_setField ho hd (by simp) (stop_hot (xa := xa) ⟨hh, o1, v1, ?_, d1, c1⟩ fun h' e k ty => ?_))))
  · exact (Heap.get?_update_other _ _ (Ne.symm hne)).trans h1
  · refine wpAny_bind (wpAny_isInstance (T := "StopIteration") (b := true) ty isSubtype_stop (wpAny_pure (hQ h' fun b ob hb eb => k b ob ?_)))
    exact (Heap.get?_update_other _ _ (Ne.symm hb)).trans eb
theorem unpack_hot {t xa : Addr} {its : Array Value} {Q : List Value → Shared → Prop} (hot : HotAt A xa s.heap) (ht : IsTup s.heap t its)
    (hQ : ∀ h', Heap.ExtBut s.heap.objs.size s.heap h' → Q its.toList { s with heap := h' }) : wpAny (model prog w) A (unpackItems (.ref t) its.size none) Q E s := by
  have lt : t ≠ s.heap.objs.size := by
    obtain ⟨o, ho, _⟩ := ht
    exact Nat.ne_of_lt (Heap.lt_size ho)
  obtain ⟨hh, o1, v1, h1, r1⟩ := hot
  have lx : xa ≠ s.heap.objs.size := Nat.ne_of_lt (Heap.lt_size h1)
  unfold unpackItems notIterableAtAll
  refine wpAny_bind (wpAny_bind (wpAny_specialOf ht.typeIs slot_tuple_iter.lookup (wpAny_pure ?_)))
  simp only [Bool.false_eq_true, if_false]
  refine wpAny_bind (wpAny_holding (iter_tuple ht (wpAny_bind (wpAny_holding (draw_tuple lt its.size 0 _ _ ⟨_, Heap.get?_push_size _ rfl, rfl, rfl⟩ (ht.push _) (by omega) fun h₁ i1 s1 => ?_)))))
  rw [List.drop_zero, List.take_of_length_le (by simp), if_neg (by simp)]
  refine wpAny_bind (wpAny_holding (tup_end_hot (xa := xa) ⟨hh, o1, v1, (s1.2 xa lx).trans (Heap.get?_push_of_some _ h1), r1⟩ lx i1 ((ht.push _).extBut s1.extBut lt) (by simp) fun h₂ e2 => ?_))
  simp only [Option.isSome_none, Bool.false_eq_true, if_false]
  exact wpAny_pure (hQ h₂ fun b o hb e => e2 b o hb (s1.extBut b o hb (Heap.get?_push_of_some _ e)))
end
section
variable {X : Cx} {pos : Pos}
/-- two names as targets -/
abbrev tg2 (x y : Str) (px py : Pos) (kt : _root_.Nat) (pt : Pos) : Expr := .Tuple [.Name x px, .Name y py] kt pt
theorem pe_never {e : Expr} : PE X e (fun _ _ _ => False) := ⟨fun _ _ _ _ _ _ h => h.elim⟩
/-- x, y = a, b of two local names -/
theorem ps_parH {i j : Nat} {x y : Str} {a b : Expr} {ta : TA} {px py pt : Pos} {kt k2 pt2} (hc : HotC X) (hN : X.N.Nodup) (hi : X.N[i]? = some x) (hj : X.N[j]? = some y) (hij : i ≠ j)
    (hx : X.env.scope.names.lookup x = some .local)
    (hy : X.env.scope.names.lookup y = some .local) (ha : PA X [a, b] ta)
    (hw : swappedStores [tg2 x y px py kt pt] (.Tuple [a, b] k2 pt2) X.env = pure (some [x, y])) (hs : swapsWithSole [tg2 x y px py kt pt] (.Tuple [a, b] k2 pt2) pos.line X.env = pure false := by rfl) :
    PS X (.Assign [tg2 x y px py kt pt] (.Tuple [a, b] k2 pt2) pos) (tPar i j ta) := by
  refine ⟨fun pins s σ H D I h => ?_⟩
  rw [exec_Assign_arm]
  refine wpAny_bind (wpAny_standAt ?_)
  rw [hs]
  refine wpAny_bind (wpAny_pure ?_)
  rw [if_neg Bool.false_ne_true]
  refine wpAny_bind (Tuple_ (thn (ha.run _ pins s σ H _ I h) fun us s1 z => ?_))
  obtain ⟨_, H1, I1, r1, v, u, rfl, q1⟩ := z
  match us, r1 with
  | [u1, u2], .cons rv (.cons ru .nil) =>
    refine wpAny_newObj_type ?_ (show 2 ≤ sizeLine by decide)
    have I2 := I1.kept (t' := s1.toks) fun b o e => Heap.get?_push_of_some { cls := .type "tuple", data := .seq [u1, u2].toArray } e
    obtain ⟨xa, hot⟩ := hc.at I2
    rw [hw]
    refine wpAny_bind (wpAny_pure (?_ : wpAny (model X.prog X.w) X.A (do rule "assign.swapped-stores"; let items ← unpackItems (.ref s1.heap.objs.size) 2 none; assignInOrder [fun v => bindName X.env y v, fun v => bindName X.env x v] items.reverse; pure Flow.next) _ _ _))
    refine wpAny_bind (wpAny_rule (wpAny_bind (unpack_hot (its := #[u1, u2]) hot (IsTup.new s1.heap _) fun h' e' => ?_)))
    have I3 := I2.kept (h' := h') (t' := s1.toks) fun b o e => e' b o (Nat.ne_of_lt (Heap.lt_size e)) e
    refine wpAny_bind (?_ : wpAny _ _ (assignInOrder [fun v => bindName X.env y v, fun v => bindName X.env x v] [u2, u1]) _ _ _)
    refine assignInOrder_cons (wpAny_bindName (store_ok I3 hN hj (.inl hy) ru (fun s2 I4 => assignInOrder_cons (wpAny_bindName (store_ok I4 hN hi (.inl hx) rv (fun s3 I5 => assignInOrder_nil (wpAny_pure ⟨_, H1, ?_, q1⟩)) (.inr hx)))) (.inr hy)))
    rw [List.set_comm _ _ hij]
    exact I5
end
end Tc
/-! exceptions of the text: what is known of a class; raised, told apart by their kinds -/
namespace Tc
open PySem L2 L2H PyProof.Rows Evl NdefX
/-- an own __init__ that keeps a number as its field f -/
def spX1 (C : Addr) (f : Str) : Sp := fun vs H Q _ => ∃ (a : Addr) (i : Int), vs = [.ref a, .int i] ∧ H a = some (exo a C none) ∧ i.natAbs.log2 < 1920 ∧
  ∀ d H', H d = none → d ≠ a → H' a = some (exo a C (some d)) → H' d = some (exd d [(f, .int i)]) → (∀ b o, b ≠ a → H b = some o → H' b = some o) → Q .non H'
/-- what super() asks of a def of a class -/
structure SupF (P : Program) (K : PySem.W.Frag) (mg : Str → Option Value) (C cda : Addr) : Prop where
  cd : ∃ (oc : Obj) (vs : Array Value) (file : Str) (tf : Tok), K.lookup cda = some oc ∧ oc.data = .fields vs ∧ vs[2]? = some (.str file tf) ∧ ((P.main.file : Str) == file) = true
  top : (P.main.scope.names.lookup ("super" : Str)).isSome = false
  mg : mg "super" = none
  cl : ∃ cdC : ClassData, PySem.W.clsIn K C = some cdC
  mr : PySem.W.mroIn K C (.ref C) = some true
  op : PySem.W.nsIn K cStatics "thirdparty.any" = some none
  su : PySem.W.ks_superIn K C C "__init__" = some (some (.builtin "ValueError.__init__"))
  ve : PySem.W.subIn K (.ref C) (.type "ValueError") = some true
theorem text_fits {i : Int} {x : Str} (hx : x.length ≤ 1000) (h : i.natAbs.log2 < 1920) : (x ++ Str.ofString (toString i)).length ≤ sizeLine := by
  have e0 := int_text_length_le (k := 1920) (by decide) h
  have e2 := PySem.ofString_length (toString i)
  rw [Str.length_append, sizeLine_eq]
  omega
/-- an exception of the text under its name, with what its __init__ keeps -/
def OwnE (P : Program) (w : World) (K : PySem.W.Frag) (mg : Str → Option Value) (base : Heap) (x : Str) (C : Addr) (ps : List Str) (k : Nat) (sp : Sp) : Prop :=
  ∃ (f : Addr) (fd : FuncData), FnOk P w K mg base CX0 k f fd ps sp ∧ OexC K C ∧ PySem.W.findIn K (.ref C) "__init__" = some (some (.ref f)) ∧ PySem.W.typeIn K (.ref f) = some (.type "function") ∧ mg x = some (.ref C) ∧ Binds K fd ps []
theorem ps_raiseE {X : Cx} {W : WX} {x : Str} {C : Addr} {ps : List Str} {k j : Nat} {sp : Sp} {e : Expr} {es : List Expr} {t : TA} {p pos pos' : Pos} (d : OwnE X.prog X.w X.K X.mg X.base x C ps k sp) (hc : X.calm = true) (tk : L2N.Takes X W) (hr : Room j X.A) (hj : k + 1 ≤ j) (hg : Gl X x) (ha : PA X (e :: es) t)
    (hdb : (x == ("__debug__" : Str)) = false := by decide)
    (he : starEach (e :: es) X.env = (false, eval e X.env) :: starEach es X.env := by rfl) (hpl : (backTo pos (starEach es X.env)).any (·.1) = false := by rfl) :
    PS X (.Raise (some (.Call (.Name x p) (e :: es) [] pos)) none pos') (fun _ σ H => tMkO C sp [] t σ H fun cls d H' => W cls d σ H') := by
  obtain ⟨f, fd, F, T, i, ty, hm, hb⟩ := d
  exact L2N.ps_raise hc tk (pmkN T i ty F (hr.mono hj) hb pass0 hg hm ha hdb he hpl)
def clN : List Str := ["AskedError", "ToldError", "Ended", "Held", "NoChange", "NoKey", "NoLife", "NoName", "NoPlace", "NoReading", "NoRow", "NoRows", "NoStretch", "NoTable", "NoTaker", "NoText", "NotAsked", "NotEnded", "NothingLeft", "NotOnWire", "NotSure", "TooMany", "Trimmed", "Twice", "Waits"]
def kdN : List Str := ["asked ", "told ", "Ended", "Held", "NoChange", "NoKey", "NoLife", "NoName", "NoPlace", "NoReading", "NoRow", "NoRows", "NoStretch", "NoTable", "NoTaker", "NoText", "NotAsked", "NotEnded", "NothingLeft", "NotOnWire", "NotSure", "TooMany", "Trimmed", "Twice", "Waits", "+"]
/-- which of the classes an exception of D is -/
structure Kd (K : PySem.W.Frag) (mg : Str → Option Value) (D : Addr) (fl : List Bool) : Prop where
  ck : ExK K D
  one : ∀ i x, clN[i]? = some x → ∃ c, mg x = some (.ref c) ∧ PySem.W.kitOne K (.ref D) (.ref c) = some (fl.getD i false)
  ve : PySem.W.kitOne K (.ref D) (.type "ValueError") = some (fl.getD 25 false)
def kindsL (fl : List Bool) : List Str := ((List.range 26).filter (fl.getD · false)).map (kdN.getD · "")
def spKinds (K : PySem.W.Frag) (mg : Str → Option Value) : SpP := fun p vs H Q _ => ∃ (D : Addr) (d : Option Addr) (fl : List Bool), vs = [.ref p.1] ∧ Kd K mg D fl ∧ IsEx D d p ∧ (∀ a, d = some a → ∃ fs, H a = some (.xd fs)) ∧ ∀ H', Ex H H' → Q (.str (Txt.join "" (kindsL fl))) H'
def tIs (pt : Addr × Obj) (d : Option Addr) (b : Bool) (te : TE) : TE := fun σ H Q => te σ H fun v H1 => v = .ref pt.1 ∧ (∀ a, d = some a → ∃ fs, H1 a = some (.xd fs)) ∧ Q (.bl b) H1
theorem xs_ex {d : Option Addr} {H H' : Hp} (x : Ex H H') (h : ∀ a, d = some a → ∃ fs, H a = some (.xd fs)) : ∀ a, d = some a → ∃ fs, H' a = some (.xd fs) := fun a e => by
  obtain ⟨fs, y⟩ := h a e
  exact ⟨fs, x a _ y⟩
theorem ev_is1 {pt : Addr × Obj} {d : Option Addr} {b : Bool} {te : TE} {σ : L2.St} {H : Hp} (h : Ev te σ H (.ref pt.1)) (hd : ∀ a, d = some a → ∃ fs, H a = some (.xd fs)) : Ev (tIs pt d b te) σ H (.bl b) := fun H1 e Q q => h H1 e _ fun H2 e2 => ⟨rfl, xs_ex (e.trans e2) hd, q H2 e2⟩
theorem el_catV {p : Addr} {xs ys : List V} {ta tb : TE} {σ : L2.St} {H : Hp} (ha : Ev ta σ H (.ref p)) (hp : H p = some (.lst xs)) (hb : EvL tb σ H ys) (hl : xs.length + ys.length ≤ 100000) : EvL (tOp rCat ta tb) σ H (xs ++ ys) := fun H1 e Q q =>
  ha H1 e _ fun H2 e2 => hb H2 (e.trans e2) _ fun p2 H3 n2 e3 h3 => ⟨p, p2, xs, ys, rfl, rfl, (e2.trans e3) p _ (e p _ hp), h3, sz_of hl, fun l hn => q l _ (fresh_back (e2.trans e3) hn) ((e2.trans e3).trans (Ex.new hn)) upd_same⟩
section
variable {X : Cx} {D : Addr} {d : Option Addr} {pt : Addr × Obj} {y : Str} {te : TE} {p p1 p2 pos : Pos} {b : Bool}
theorem pe_is1 {x : Str} {i : Nat} (C : ExK X.K D) (hp : pt ∈ X.pn) (hx : IsEx D d pt) (gi : Gl X "isinstance") (ni : X.mg "isinstance" = none) (g : Gl X x) (hm : ∃ c, X.mg x = some (.ref c) ∧ PySem.W.kitOne X.K (.ref D) (.ref c) = some b) (he : PE X (.Name y p1) (tVar i))
    (hd : (x == ("__debug__" : Str)) = false := by decide) : PE X (.Call (.Name "isinstance" p) [.Name y p1, .Name x p2] [] pos) (tIs pt d b (tVar i)) := by
  obtain ⟨c, hm, hk⟩ := hm
  have r := pe_callB (pos := pos) (p := p) (call_isP C hp hx) gi ni boot_isinstance (pa_cons he (pa_cons (pe_glob (pos := p2) (v := .ref c) g hm rfl hd) pa_nil))
  refine ⟨fun pins s σ H Q I h => r.run pins s σ H Q I ?_⟩
  obtain ⟨v, h1, rfl, h2, q⟩ := h
  exact ⟨_, h1, .ref c, .ref c, b, rfl, fun u z => z, h2, hk, q⟩
theorem pe_isV {i : Nat} (C : ExK X.K D) (hp : pt ∈ X.pn) (hx : IsEx D d pt) (gi : Gl X "isinstance") (ni : X.mg "isinstance" = none) (g : Gl X "ValueError") (hm : X.mg "ValueError" = none) (hk : PySem.W.kitOne X.K (.ref D) (.type "ValueError") = some b) (he : PE X (.Name y p1) (tVar i)) : PE X (.Call (.Name "isinstance" p) [.Name y p1, .Name "ValueError" p2] [] pos) (tIs pt d b (tVar i)) := by
  have r := pe_callB (pos := pos) (p := p) (call_isP C hp hx) gi ni boot_isinstance (pa_cons he (pa_cons (pe_bltn (pos := p2) (v := .ty "ValueError") g hm PyProof.Rows.Boot.«ValueError» rfl) pa_nil))
  refine ⟨fun pins s σ H Q I h => r.run pins s σ H Q I ?_⟩
  obtain ⟨v, h1, rfl, h2, q⟩ := h
  exact ⟨_, h1, .ty "ValueError", .type "ValueError", b, rfl, fun u z => z, h2, hk, q⟩
end
theorem sum_le {l : List Str} (h : ∀ y ∈ l, y.length ≤ 20) : (l.map (·.length)).sum ≤ 20 * l.length := by
  induction l with
  | nil => exact Nat.le_refl _
  | cons a l ih =>
    have h1 := h a List.mem_cons_self
    have h2 := ih fun y m => h y (List.mem_cons_of_mem _ m)
    rw [List.map_cons, List.sum_cons, List.length_cons]
    omega
theorem kd_len : ∀ i, (kdN.getD i "").length ≤ 20 := fun i => by
  have all : ∀ y ∈ kdN, y.length ≤ 20 := by decide +kernel
  rw [List.getD_eq_getElem?_getD]
  cases e : kdN[i]? with
  | none => exact (by decide +kernel : (Str.ofString "").length ≤ 20)
  | some y => exact all y (List.mem_of_getElem? e)
theorem kinds_len (fl : List Bool) : (kindsL fl).length ≤ 26 := by
  unfold kindsL
  rw [List.length_map]
  exact Nat.le_trans (List.length_filter_le _ _) (by rw [List.length_range]; exact Nat.le_refl _)
theorem flags_eq (g : Nat → V) : [g 0, g 1, g 2, g 3] ++ [g 4, g 5, g 6, g 7] ++ [g 8, g 9, g 10, g 11] ++ [g 12, g 13, g 14, g 15] ++ [g 16, g 17, g 18] ++ [g 19, g 20, g 21, g 22] ++ [g 23, g 24, g 25] = (List.range 26).map g := rfl
theorem kinds_end {K : PySem.W.Frag} {H : Hp} {p6 p9 : Addr} {fl : List Bool} {v : V} {D : Ends} (h6 : H p6 = some (.lst ((List.range 26).map fun i => V.bl (fl.getD i false)))) (h9 : H p9 = some (.lst (kdN.map V.str))) (q : ∀ H', Ex H H' → D.rt (.str (Txt.join "" (kindsL fl))) H') :
    tRet (tM1 (fun x xs H Q => ∃ a p, ∃ ys : List Str, x = .str a ∧ xs = [.ref p] ∧ (SqL K H p (ys.map V.str) ∨ SqT K H p (ys.map V.str)) ∧ (ys.map (·.length)).sum + ys.length * a.length ≤ 16777216 ∧ Q (.str (Txt.join a ys)) H) (tC (.str "")) (tLc (iRng1 (tCons (tC (.int 26)) tNil)) (gName 3) (tB (tOp (rIxL K) (tVar 1) (tVar 3))) (tOp (rIxL K) (tVar 2) (tVar 3)) [3])) D [some v, some (.ref p6), some (.ref p9), none] H := by
  refine ⟨⟨_, rfl⟩, ?_⟩
  have hS : ∀ i : Nat, i < 26 → ((List.range 26).map fun i => V.bl (fl.getD i false))[i]? = some (.bl (fl.getD i false)) := fun i hi => by
    rw [List.getElem?_map, List.getElem?_range hi]
    rfl
  have hW : ∀ i : Nat, i < 26 → (kdN.map V.str)[i]? = some (.str (kdN.getD i "")) := fun i hi => by
    have hi2 : i < kdN.length := hi
    rw [List.getElem?_map, List.getD_eq_getElem?_getD, List.getElem?_eq_getElem hi2]
    rfl
  refine el_lcR1 (n := 26) (σ := [some v, some (.ref p6), some (.ref p9), none]) (fun i => fl.getD i false) (fun i => V.str (kdN.getD i "")) (ea_cons ev_c ea_nil) (by decide) (fun x => rfl) (fun i H1 e hi => et_B (ev_lx (ev_var rfl) (ev_var rfl) (sq_of (e p6 _ h6)) (hS i (by omega)))) (fun i H1 e hi _ => ev_lx (ev_var rfl) (ev_var rfl) (sq_of (e p9 _ h9)) (hW i (by omega))) H (Ex.refl _) _ fun pl Hl nl el hl => ?_
  refine ⟨"", pl, kindsL fl, rfl, rfl, .inl (sq_of ?_), ?_, q Hl el⟩
  · rw [hl]
    unfold kindsL given
    rw [List.map_map]
    rfl
  · have a := sum_le (l := kindsL fl) fun y m => by
      obtain ⟨i, _, rfl⟩ := List.mem_map.mp m
      exact kd_len i
    have b := kinds_len fl
    have c : (Str.ofString "").length = 0 := by decide +kernel
    rw [c]
    omega
/-- what the exceptions of class C are called -/
structure ExC (K : PySem.W.Frag) (mg : Str → Option Value) (x : Str) (C : Addr) (fl : List Bool) : Prop where
  kd : Kd K mg C fl
  xf : XfC K C
  em : PySem.W.exmOne K (.ref C) (.ref C) = some true
  nm : mg x = some (.ref C)
def tKn (K : PySem.W.Frag) (mg : Str → Option Value) (a : Addr) (cls : Value) (d : Option Addr) (i : Nat) : TE := fun σ H Q => σ[i]? = some (some (.ref a)) ∧ ∃ (D : Addr) (fl : List Bool), cls = .ref D ∧ Kd K mg D fl ∧ (∀ b, d = some b → ∃ fs, H b = some (.xd fs)) ∧ ∀ H', Ex H H' → Q (.str (Txt.join "" (kindsL fl))) H'
theorem hot_suite {X : Cx} {a : Addr} {oe : Obj} {cls : Value} {d : Option Addr} {pn : List (Addr × Obj)} (hz : L2N.Zn cls d oe) (hf : ∃ vs, oe.data = .fields vs) : HotP (X.suite a ((a, oe) :: pn)) (a, oe) := by
  obtain ⟨vs, hv⟩ := hf
  exact ⟨⟨rfl, vs, hv, hz.2.2 vs hv⟩, List.mem_cons_self⟩
theorem pe_kn {X : Cx} {a : Addr} {oe : Obj} {cls : Value} {d : Option Addr} {pn : List (Addr × Obj)} {i j k : Nat} {y : Str} {p p1 pos : Pos} (hz : L2N.Zn cls d oe) (hf : ∃ vs, oe.data = .fields vs) (dK : OwnP X.prog X.w X.K X.mg X.base "_law_kinds" ["e"] k (spKinds X.K X.mg)) (hr : Room j X.A) (hj : k ≤ j) (hg : Gl X "_law_kinds") (he : PE (X.suite a ((a, oe) :: pn)) (.Name y p1) (tVar i)) :
    PE (X.suite a ((a, oe) :: pn)) (.Call (.Name "_law_kinds" p) [.Name y p1] [] pos) (tKn X.K X.mg a cls d i) := by
  have r := pe_ownP (X := X.suite a ((a, oe) :: pn)) (p := p) (pos := pos) dK (hot_suite hz hf) (roomH_mark hr _) hj hg (pa_cons he pa_nil)
  refine ⟨fun pins s σ H Q I h => r.run pins s σ H Q I ?_⟩
  obtain ⟨h1, D, fl, e, kd, hx, q⟩ := h
  subst e
  exact ⟨_, h1, D, d, fl, rfl, kd, ⟨hz.1, hz.2.1, hf⟩, hx, q⟩
/-! by looking -/
def kdB (K : PySem.W.Frag) (D : Addr) (fl : List Bool) : Bool := (List.range 25).all fun i => match PySem.W.nsIn K mainGlobals (clN.getD i "") with
  | some (some (.ref c)) => decide (PySem.W.kitOne K (.ref D) (.ref c) = some (fl.getD i false))
  | _ => false
def exkB (K : PySem.W.Frag) (D : Addr) : Bool := (PySem.W.clsIn K D).isSome && (decide (PySem.W.findIn K (.ref D) "__getattribute__" = some (some (.builtin "BaseException.__getattribute__"))) && (decide (PySem.W.findIn K (.ref D) "__getattr__" = some none) && (decide (PySem.W.subIn K (.ref D) (.type "BaseException") = some true) &&
  (decide (PySem.W.findIn K (.ref D) "__class__" = some (some (.builtin "object.__class__"))) && (decide (PySem.W.specialIn K (.builtin "object.__class__") "__get__" = some (some (.builtin "getset_descriptor.__get__"))) && (decide (PySem.W.takesIn K (.builtin "object.__class__") = some true) && decide (PySem.W.mroIn K D (.type "object") = some true)))))))
theorem exkB_ok {K : PySem.W.Frag} {D : Addr} (h : exkB K D = true) : ExK K D := by
  obtain ⟨y1, h⟩ := Bool.and_eq_true_iff.mp h
  obtain ⟨y2, h⟩ := Bool.and_eq_true_iff.mp h
  obtain ⟨y3, h⟩ := Bool.and_eq_true_iff.mp h
  obtain ⟨y4, h⟩ := Bool.and_eq_true_iff.mp h
  obtain ⟨y5, h⟩ := Bool.and_eq_true_iff.mp h
  obtain ⟨y6, h⟩ := Bool.and_eq_true_iff.mp h
  obtain ⟨y7, y8⟩ := Bool.and_eq_true_iff.mp h
  exact ⟨y1, of_decide_eq_true y2, of_decide_eq_true y3, of_decide_eq_true y4, of_decide_eq_true y5, of_decide_eq_true y6, of_decide_eq_true y7, of_decide_eq_true y8⟩
/-- all that is to be known of a class C, when its kinds are fl -/
def excB (K : PySem.W.Frag) (C : Addr) (fl : List Bool) : Bool := kdB K C fl && (exkB K C && (xfB K C && (decide (PySem.W.kitOne K (.ref C) (.type "ValueError") = some (fl.getD 25 false)) && decide (PySem.W.exmOne K (.ref C) (.ref C) = some true))))
theorem kdB_ok {K : PySem.W.Frag} {h : Heap} {mg : Str → Option Value} {D : Addr} {fl : List Bool} (X : K.In h) (G : h.Ns mainGlobals mg) (e : kdB K D fl = true) : ∀ i x, clN[i]? = some x → ∃ c, mg x = some (.ref c) ∧ PySem.W.kitOne K (.ref D) (.ref c) = some (fl.getD i false) := by
  intro i x hx
  have hi : i < 25 := (List.getElem?_eq_some_iff.mp hx).1
  have e := List.all_eq_true.mp e i (List.mem_range.mpr hi)
  rw [show clN.getD i "" = x by rw [List.getD_eq_getElem?_getD, hx]; rfl] at e
  split at e
  · rename_i c hc
    exact ⟨c, PySem.W.mg_of X G hc, of_decide_eq_true e⟩
  · cases e
theorem excB_ok {K : PySem.W.Frag} {h : Heap} {mg : Str → Option Value} {x : Str} {C : Addr} {fl : List Bool} (X : K.In h) (G : h.Ns mainGlobals mg) (a : PySem.W.nsIn K mainGlobals x = some (some (.ref C))) (e : excB K C fl = true) : ExC K mg x C fl := by
  obtain ⟨y1, h⟩ := Bool.and_eq_true_iff.mp e
  obtain ⟨y2, h⟩ := Bool.and_eq_true_iff.mp h
  obtain ⟨y3, h⟩ := Bool.and_eq_true_iff.mp h
  obtain ⟨y4, y5⟩ := Bool.and_eq_true_iff.mp h
  exact ⟨⟨exkB_ok y2, kdB_ok X G y1, of_decide_eq_true y4⟩, xfB_ok y3, of_decide_eq_true y5, PySem.W.mg_of X G a⟩
/-- what is to be known that it may be made -/
def oexB (K : PySem.W.Frag) (C : Addr) : Bool := decide (PySem.W.findIn K (.ref C) "__setattr__" = some (some (.builtin "object.__setattr__"))) && (decide (PySem.W.subIn K (.ref C) (.type "BaseException") = some true) && (decide (PySem.W.typeIn K (.ref C) = some (.type "type")) && PySem.W.keepIn K (.ref C)))
theorem oexB_ok {K : PySem.W.Frag} {C N : Addr} {nm q : Str} {bs bm : List Value} {sn sub ab col dd k0 k1 k2 k3 k5} (xL : K.lookup C = some (excClassObj nm q C N bs bm true sn sub ab col dd k0 k1 k2 k3 k5 "ValueError.__new__")) (xR : PySem.HandSPX.refsVE bm = true) (e : oexB K C = true) : OexC K C := by
  obtain ⟨y1, h⟩ := Bool.and_eq_true_iff.mp e
  obtain ⟨y2, h⟩ := Bool.and_eq_true_iff.mp h
  obtain ⟨y3, y4⟩ := Bool.and_eq_true_iff.mp h
  exact ⟨⟨nm, q, N, bs, bm, sn, sub, ab, col, dd, k0, k1, k2, k3, k5, xL, xR⟩, of_decide_eq_true y1, of_decide_eq_true y2, of_decide_eq_true y3, y4⟩
/-- what super() asks, by looking -/
def supB (K : PySem.W.Frag) (file : Str) (C cda : Addr) : Bool := (match K.lookup cda with
    | some ⟨_, _, .fields vs, _⟩ => (match (vs[2]? : Option Value) with | some (.str f _) => file == f | _ => false)
    | _ => false) && ((PySem.W.clsIn K C).isSome && (decide (PySem.W.mroIn K C (.ref C) = some true) && (decide (PySem.W.nsIn K cStatics "thirdparty.any" = some none) && (decide (PySem.W.ks_superIn K C C "__init__" = some (some (.builtin "ValueError.__init__"))) && (decide (PySem.W.subIn K (.ref C) (.type "ValueError") = some true) && decide (PySem.W.nsIn K mainGlobals "super" = some none))))))
theorem supB_ok {P : Program} {K : PySem.W.Frag} {h : Heap} {mg : Str → Option Value} {C cda : Addr} (X : K.In h) (G : h.Ns mainGlobals mg) (top : (P.main.scope.names.lookup ("super" : Str)).isSome = false) (e : supB K P.main.file C cda = true) : SupF P K mg C cda := by
  obtain ⟨y1, h⟩ := Bool.and_eq_true_iff.mp e
  obtain ⟨y2, h⟩ := Bool.and_eq_true_iff.mp h
  obtain ⟨y3, h⟩ := Bool.and_eq_true_iff.mp h
  obtain ⟨y4, h⟩ := Bool.and_eq_true_iff.mp h
  obtain ⟨y5, h⟩ := Bool.and_eq_true_iff.mp h
  obtain ⟨y6, y7⟩ := Bool.and_eq_true_iff.mp h
  refine ⟨?_, top, PySem.W.mg_none_of X G (of_decide_eq_true y7), Option.isSome_iff_exists.mp y2, of_decide_eq_true y3, of_decide_eq_true y4, of_decide_eq_true y5, of_decide_eq_true y6⟩
  split at y1
  · rename_i c d vs sl hl
    split at y1
    · rename_i f t hv
      exact ⟨_, vs, f, t, hl, rfl, hv, y1⟩
    · cases y1
  · cases y1
end Tc
/-! data of a known depth: such data can be compared, and are like themselves -/
namespace Tc
open PySem L2 PyProof.Rows Evl
def sd : Nat → PyData → Bool
  | _, .none => true
  | _, .bool _ => true
  | _, .int _ => true
  | _, .str s => PyData.strOk s
  | n + 1, .list xs => xs.all (sd n)
  | n + 1, .tuple xs => xs.all (sd n)
  | _, _ => false
theorem sd_ok : ∀ (n : Nat) (d : PyData), sd n d = true → PyData.canLay0 d = true ∧ d.depth ≤ n ∧ PyData.eqv d d = true := by
  intro n
  induction n with
  | zero =>
    intro d h
    cases d with
    | none => exact ⟨rfl, Nat.le_refl _, rfl⟩
    | bool b => exact ⟨rfl, Nat.le_refl _, by simp [PyData.eqv]⟩
    | int i => exact ⟨rfl, Nat.le_refl _, by simp [PyData.eqv]⟩
    | str s => exact ⟨h, Nat.le_refl _, by simp [PyData.eqv]⟩
    | list xs => cases h
    | tuple xs => cases h
    | dict xs => cases h
  | succ n ih =>
    have all : ∀ xs : List PyData, xs.all (sd n) = true → PyData.canLayAll0 xs = true ∧ PyData.depthAll xs ≤ n ∧ PyData.eqvAll xs xs = true := by
      intro xs
      induction xs with
      | nil => exact fun _ => ⟨rfl, Nat.zero_le _, rfl⟩
      | cons x xs ihx =>
        intro h
        rw [List.all_cons, Bool.and_eq_true] at h
        obtain ⟨a1, a2, a3⟩ := ih x h.1
        obtain ⟨b1, b2, b3⟩ := ihx h.2
        rw [PyData.canLayAll0, PyData.depthAll, PyData.eqvAll, a1, b1, a3, b3]
        exact ⟨rfl, Nat.max_le.mpr ⟨a2, b2⟩, rfl⟩
    intro d h
    cases d with
    | none => exact ⟨rfl, Nat.zero_le _, rfl⟩
    | bool b => exact ⟨rfl, Nat.zero_le _, by simp [PyData.eqv]⟩
    | int i => exact ⟨rfl, Nat.zero_le _, by simp [PyData.eqv]⟩
    | str s => exact ⟨h, Nat.zero_le _, by simp [PyData.eqv]⟩
    | list xs =>
      obtain ⟨a1, a2, a3⟩ := all xs h
      rw [PyData.canLay0, PyData.depth, PyData.eqv]
      exact ⟨a1, by omega, a3⟩
    | tuple xs =>
      obtain ⟨a1, a2, a3⟩ := all xs h
      rw [PyData.canLay0, PyData.depth, PyData.eqv]
      exact ⟨a1, by omega, a3⟩
    | dict xs => cases h
theorem sd_sh {n : Nat} {d : PyData} (h : sd n d = true) (hn : n ≤ 64) : SeqAt.shaped d = true := by
  obtain ⟨a, b, _⟩ := sd_ok n d h
  unfold SeqAt.shaped
  rw [a, decide_eq_true (Nat.le_trans b hn)]
  rfl
theorem sd_eq {n : Nat} {d : PyData} (h : sd n d = true) : PyData.eqv d d = true := (sd_ok n d h).2.2
theorem sd_up {n m : Nat} {d : PyData} (h : sd n d = true) (hm : n ≤ m) : sd m d = true := by
  induction n generalizing m d with
  | zero =>
    cases d <;> cases m <;> first | exact h | rfl | cases h
  | succ n ih =>
    obtain ⟨m, rfl⟩ : ∃ k, m = k + 1 := ⟨m - 1, by omega⟩
    cases d with
    | list xs => exact List.all_eq_true.mpr fun x hx => ih (List.all_eq_true.mp h x hx) (by omega)
    | tuple xs => exact List.all_eq_true.mpr fun x hx => ih (List.all_eq_true.mp h x hx) (by omega)
    | dict xs => cases h
    | none => rfl
    | bool b => rfl
    | int i => rfl
    | str s => exact h
theorem sd_ints (js : List Int) : sd 1 (.list (js.map PyData.int)) = true := List.all_eq_true.mpr fun x hx => by
  obtain ⟨i, _, rfl⟩ := List.mem_map.mp hx
  rfl
theorem sd_rows (rs : List (Int × Int)) : sd 2 (rowsD rs) = true := List.all_eq_true.mpr fun x hx => by
  obtain ⟨i, _, rfl⟩ := List.mem_map.mp hx
  rfl
theorem sd_ch {ks : List Int} {c : PyData} (h : goodCh ks c = true) : sd 1 c = true := by
  unfold goodCh at h
  split at h
  · rename_i s k
    rw [Bool.and_eq_true] at h
    rw [of_decide_eq_true h.1]
    show (PyData.strOk "drop" && (true && true)) = true
    decide +kernel
  · rename_i s k z
    rw [Bool.and_eq_true] at h
    rw [of_decide_eq_true h.1]
    show (PyData.strOk "put" && (true && (true && true))) = true
    decide +kernel
  · cases h
theorem sd_en {ks : List Int} {d : PyData} (h : goodEn ks d = true) : sd 3 d = true := by
  unfold goodEn at h
  split at h
  · rename_i s cs
    rw [Bool.and_eq_true, List.all_eq_true] at h
    rw [of_decide_eq_true h.1]
    show (PyData.strOk "group" && (cs.all (sd 1) && true)) = true
    rw [show cs.all (sd 1) = true from List.all_eq_true.mpr fun c m => sd_ch (h.2 c m)]
    decide +kernel
  · rename_i s i j
    rw [Bool.and_eq_true] at h
    show (PyData.strOk s && (true && (true && true))) = true
    rw [h.2]
    rfl
  · cases h
/-- two things that turn out to be the same data are not unlike -/
theorem ne_ex {K : PySem.W.Frag} {H : Hp} {σ : L2.St} {te tb : TE} {Q : Bool → Hp → Prop} {n : Nat} (S : PyData → Prop) (h : ∀ Q' : VK, (∀ v d H', Ex H H' → Dp K H' v d → S d → Q' v H') → te σ H Q') (hb : ∀ d H1, S d → Ex H H1 → ∀ Q' : VK, (∀ v H', Ex H1 H' → Dp K H' v d → Q' v H') → tb σ H1 Q') (hs : ∀ d, S d → sd n d = true) (hn : n ≤ 64) (q : ∀ H', Ex H H' → Q false H') : tTest (tOp (rNeD K) te tb) σ H Q :=
  h _ fun v d H1 x1 d1 sd1 => hb d H1 sd1 x1 _ fun v2 H2 x2 d2 => ⟨d, d, dp_same x2 _ _ d1, d2, sd_sh (hs d sd1) hn, sd_sh (hs d sd1) hn, by
    rw [sd_eq (hs d sd1)]
    exact ⟨false, rfl, q H2 (x1.trans x2)⟩⟩
theorem ne_sd {K : PySem.W.Frag} {H : Hp} {σ : L2.St} {te tb : TE} {Q : Bool → Hp → Prop} {n : Nat} (d : PyData) (h : ∀ Q' : VK, (∀ v H', Ex H H' → Dp K H' v d → Q' v H') → te σ H Q') (hb : ∀ H1, Ex H H1 → ∀ Q' : VK, (∀ v H', Ex H1 H' → Dp K H' v d → Q' v H') → tb σ H1 Q') (hs : sd n d = true) (hn : n ≤ 64) (q : ∀ H', Ex H H' → Q false H') : tTest (tOp (rNeD K) te tb) σ H Q :=
  ne_ex (fun e => e = d) (fun Q' q' => h Q' fun v H' x y => q' v d H' x y rfl) (fun e H1 z x Q' q' => hb H1 x Q' fun v H' x y => q' v H' x (z ▸ y)) (fun e z => z ▸ hs) hn q
theorem sd_3 {n : Nat} {d e : PyData} {s : Str} (h1 : sd n d = true) (h2 : PyData.strOk s = true) (h3 : sd n e = true) : sd (n + 1) (.tuple [d, .str s, e]) = true := by
  show (sd n d && (sd n (.str s) && (sd n e && true))) = true
  rw [h1, h3, show sd n (.str s) = true by cases n <;> exact h2]
  rfl
/-- a list gone through, made as we please -/
theorem for_of {K : PySem.W.Frag} {tl : TE} {σ : L2.St} {H : Hp} {R : It → Hp → Prop} (k : ∀ Q' : VK, (∀ (a : Addr) (xs : List V) (H1 : Hp), SqL K H1 a xs → R (Itl K a) H1 → Q' (.ref a) H1) → tl σ H Q') : iList K tl σ H R := k _ fun a xs H1 hs w => ⟨a, rfl, ⟨xs, hs⟩, w⟩
theorem lst_of {ta : TA} {σ : L2.St} {H : Hp} {Q : VK} (k : ta σ H fun vs H1 => vs.length ≤ sizeLine ∧ ∀ p, H1 p = none → Q (.ref p) (upd H1 p (.lst vs))) : tLst ta σ H Q := k
theorem cons_of {te : TE} {ta : TA} {σ : L2.St} {H : Hp} {Q : List V → Hp → Prop} (k : te σ H fun v H1 => ta σ H1 fun vs H2 => Q (v :: vs) H2) : tCons te ta σ H Q := k
theorem sd_log {ks : List Int} {ds : List PyData} (h : ∀ d ∈ ds, goodEn ks d = true) : sd 4 (.list ds) = true := List.all_eq_true.mpr fun d m => sd_en (h d m)
end Tc
/-! defs with names behind a star that may let an exception out; a part of a tuple that has no dict -/
namespace Tc
open PySem PySem.Spec PyProof.Rows L2
def tCallXN (n m : Nat) (sp : Sp) (E : L2.St → XK) (t tk : TA) : TE := fun σ H Q => t σ H fun vs H1 => tk σ H1 fun zs H2 => vs.length = n ∧ zs.length = m ∧ sp (vs ++ zs) H2 Q (E σ)
/-- called by a name behind the star, or without: then it has its default -/
def OwnXN (P : Program) (w : World) (K : PySem.W.Frag) (mg : Str → Option Value) (base : Heap) (x : Str) (ps : List Str) (n : Nat) (ns : List Str) (dvs : List V) (k : Nat) (sp : Sp) : Prop :=
  ∃ (f : Addr) (fd : FuncData) (ds : List Value), FnOk P w K mg base (L2N.CX P w) k f fd ps sp ∧ mg x = some (.ref f) ∧ PySem.W.keepIn K (.ref f) = true ∧ KBn K fd ps n ns (· ++ ·) (· ++ ·) ∧ Vals dvs ds ∧ Binds K fd ps ds
section
variable {X : Cx} {W : WX} {x : Str} {ps ns : List Str} {dvs : List V} {n k j : Nat} {sp : Sp} {e : Expr} {es : List Expr} {kws : List Keyword} {t tk : TA} {p pos : Pos}
theorem pe_ownXN (d : OwnXN X.prog X.w X.K X.mg X.base x ps n ns dvs k sp) (take : L2N.Takes X W) (hr : Room j X.A) (hj : k ≤ j) (hg : Gl X x) (ha : PA X (e :: es) t) (hkw : PK X kws tk)
    (hall : (backToKw pos (keywordEach kws X.env)).all (·.1.isSome) = true := by rfl)
    (hks : (backToKw pos (keywordEach kws X.env)).filterMap (·.1) = ns := by rfl) (hdb : (x == ("__debug__" : Str)) = false := by decide)
    (he : starEach (e :: es) X.env = (false, eval e X.env) :: starEach es X.env := by rfl)
    (hpl : ((backTo pos (starEach (e :: es) X.env)).any (·.1) || (backToKw pos (keywordEach kws X.env)).any (·.1.isNone)) = false := by rfl) :
    PE X (.Call (.Name x p) (e :: es) kws pos) (tCallXN n ns.length sp (WE W) t tk) := by
  obtain ⟨f, fd, ds, F, hm, hk, hb, _, _⟩ := d
  refine ⟨fun pins s σ H Q I want => wpAny_Call_Name_kw (ld_glob I hg hm (PySem.W.callWith_KW (h₀ := X.base) I.mod.kin hk hall (thn (ha.run pos pins s σ H _ I want) fun us s1 z1 => ?_) hpl he) hdb)⟩
  obtain ⟨vs, H1, I1, r1, go⟩ := z1
  refine thn (hkw.run pos pins s1 σ H1 _ I1 go) fun ws s2 z2 => ?_
  obtain ⟨zs, H2, I2, r2, l1, l2, fin⟩ := z2
  rw [hks]
  refine ⟨I2.kIn, wpAny_call (codeAny_mono (F.run X.A X.stack s2 H2 ⟨us, ns.zip ws⟩ (us ++ ws) (vs ++ zs) Q (WE W σ) (hr.mono hj) I2.env0 (hb.to s2 us ws I2.kIn (r1.length ▸ l1) (r2.length ▸ l2)) (hb.rel r1 r2) fin) fun res s3 z3 => ?_)⟩
  match res, z3 with
  | .error u, z3 => exact L2N.passAt take σ pins H2 s2 u s3 I2 z3
  | .ok (.ret u), z3 => exact I2.after z3
theorem pe_ownXD (d : OwnXN X.prog X.w X.K X.mg X.base x ps n ns dvs k sp) (take : L2N.Takes X W) (hr : Room j X.A) (hj : k ≤ j) (hg : Gl X x) (ha : PA X (e :: es) t)
    (hdb : (x == ("__debug__" : Str)) = false := by decide)
    (he : starEach (e :: es) X.env = (false, eval e X.env) :: starEach es X.env := by rfl) (hpl : (backTo pos (starEach es X.env)).any (·.1) = false := by rfl) :
    PE X (.Call (.Name x p) (e :: es) [] pos) (tCallSD sp dvs (WE W) t) := by
  obtain ⟨f, fd, ds, F, hm, hk, _, hd, hb⟩ := d
  exact pe_callSD F (hr.mono hj) hg hm hk hb hd (fun σ => L2N.passAt take σ) ha hdb he hpl
/-- t[lo:hi], the whole of it t itself, else a tuple without a dict -/
def rSlF (K : PySem.W.Frag) : V → Option Int → Option Int → Hp → VK → Prop := fun x lo hi H Q => ∃ (a : Addr) (xs : List V), x = .ref a ∧ SqT K H a xs ∧
  ((HT.sIx xs.length 0 lo = 0 ∧ HT.sIx xs.length xs.length hi = xs.length) → Q (.ref a) H) ∧ (¬ (HT.sIx xs.length 0 lo = 0 ∧ HT.sIx xs.length xs.length hi = xs.length) → ∀ (p : Addr) (o : Obj), H p = none → o.dict = none → Q (.ref p) (upd H p (.frz o (.tup (cutV xs lo hi)))))
theorem sl_tupF : SlR X (rSlF X.K) := fun pins s σ H x v vl vu lo hi sl Q I rx hs pl pu ⟨a, xs, ex, hx, q1, q2⟩ => by
  by_cases hw : HT.sIx xs.length 0 lo = 0 ∧ HT.sIx xs.length xs.length hi = xs.length
  · exact sl_tupA pins s σ H x v vl vu lo hi sl Q I rx hs pl pu ⟨a, xs, ex, hx, q1, fun no => absurd hw no⟩
  · subst ex
    obtain rfl : v = Value.ref a := rx
    obtain ⟨us, rv, isT, size⟩ := I.tuple hx
    have same : us.toArray.size = xs.length := by
      rw [List.size_toArray]
      exact rv.length.symm
    refine ⟨"tuple", _, PyProof.Rows.slot_tuple_getitem.lookup, isT.typeIs, HT.getItem_tuple_cut isT hs pl pu (same ▸ hw) ?_ (same ▸ size)⟩
    have new := I.hok.fresh (Nat.le_refl s.heap.objs.size)
    rw [same]
    refine ⟨.ref s.heap.objs.size, _, I.laid (a := s.heap.objs.size) (t' := s.toks) (fun b u z => Heap.get?_push_of_some _ z) (Nat.le_refl _) ?_, rfl, q2 hw _ { cls := .type "tuple", data := .seq ((us.drop (HT.sIx xs.length 0 lo)).take (HT.sIx xs.length xs.length hi - HT.sIx xs.length 0 lo)).toArray } new rfl⟩
    exact (show ObjOk X.prog X.w _ _ _ (.frz _ (.tup (cutV xs lo hi))) from ⟨Heap.get?_push_size _ rfl, Nat.le_trans (cutV_length xs lo hi) size, _, (rv.drop (HT.sIx xs.length 0 lo)).take (HT.sIx xs.length xs.length hi - HT.sIx xs.length 0 lo), IsTup.new _ _⟩)
end
end Tc
/-! methods that may let an exception out; a caught exception's fields, its kind among several, in a def that an except suite calls -/
namespace Tc
open PySem PySem.Spec PyProof.Rows L2 L2H
/-- a method by its name, of the instances of C -/
def MethX (P : Program) (w : World) (K : PySem.W.Frag) (mg : Str → Option Value) (base : Heap) (C : Addr) (m : Str) (ps : List Str) (k : Nat) (sp : Sp) : Prop :=
  ∃ (f : Addr) (fd : FuncData), FnOk P w K mg base (L2N.CX P w) k f fd ps sp ∧ Binds K fd ps [] ∧ Meth K C m f
def tMethX (C : Addr) (m : Str) (sp : Sp) (E : L2.St → XK) (ta : TE) (t : TA) : TE := fun σ H Q => ta σ H fun x H1 => ∃ a dx fs, x = .ref a ∧ H1 a = some (.ins C dx fs) ∧ fs.lookup m = none ∧ t σ H1 fun vs H2 => sp (x :: vs) H2 Q (E σ)
section
variable {X : Cx} {C : Addr} {m : Str} {ps : List Str} {k j : Nat} {sp : Sp} {W : WX} {o e : Expr} {es : List Expr} {ta : TE} {t : TA} {pos apos : Pos}
theorem pe_methX {pl : Sem Bool} (d : MethX X.prog X.w X.K X.mg X.base C m ps k sp) (take : L2N.Takes X W) (hr : Room j X.A) (hj : k ≤ j) (c : Cls X.K C) (he : PE X o ta) (ha : PA X (e :: es) t)
    (hst : starEach (e :: es) X.env = (false, eval e X.env) :: starEach es X.env := by rfl)
    (hpl : (backTo pos (starEach es X.env)).any (·.1) = false := by rfl)
    (ht : eval (.Call (.Attribute o m apos) (e :: es) [] pos) X.env = (do
      let v0 ← eval o X.env
      standAt apos.atName
      let (g, g1) ← holding [v0] (getMethod v0 m pl)
      callWith pos g g1 (backTo pos (starEach (e :: es) X.env)) (backToKw pos (keywordEach [] X.env))) := by rfl) :
    PE X (.Call (.Attribute o m apos) (e :: es) [] pos) (tMethX C m sp (WE W) ta t) := by
  obtain ⟨f, fd, F, hb, hm⟩ := d
  refine ⟨fun pins s σ H Q I want => PySem.W.methodCall_KW (pl := pl) (thn (he.run pins s σ H _ I want) fun u s1 z1 => ?_) ht⟩
  obtain ⟨x, H1, I1, rx, a, dx, fs, rfl, ea, nl, go⟩ := z1
  obtain rfl : u = Value.ref a := rx
  refine getmeth_ok I1 ea c hm nl (PySem.W.callWith_K (first := [.ref a]) (h₀ := X.base) I.mod.kin hm.kp (thn (ha.run pos pins s1 σ H1 _ I1 go) fun us s2 z2 => ?_) hst hpl)
  obtain ⟨vs, H2, I2, r, fin⟩ := z2
  have rr : Vals (.ref a :: vs) (.ref a :: us) := .cons rfl r
  have b := hb s2 (.ref a :: us) I2.kIn (by
    rw [List.append_nil, ← rr.length]
    exact F.len _ _ _ _ fin)
  rw [List.append_nil] at b
  refine ⟨I2.kIn, wpAny_call (codeAny_mono (F.run X.A X.stack s2 H2 ⟨.ref a :: us, []⟩ (.ref a :: us) (.ref a :: vs) Q (WE W σ) (hr.mono hj) I2.env0 b rr fin) fun res s3 z3 => ?_)⟩
  match res, z3 with
  | .error u, z3 => exact L2N.passAt take σ pins H2 s2 u s3 I2 z3
  | .ok (.ret u), z3 => exact I2.after z3
end
section
variable {X : Cx} {D : Addr} {d : Option Addr} {p : Addr × Obj}
/-- e.n of the pinned exception -/
def tXp (p : Addr × Obj) (d : Option Addr) (n : Str) (te : TE) : TE := fun σ H Q => te σ H fun x H1 => x = .ref p.1 ∧ ∃ (b : Addr) (fs : List (Str × V)) (v : V), d = some b ∧ H1 b = some (.xd fs) ∧ fs.lookup n = some v ∧ Q v H1
theorem pe_xp {e : Expr} {te : TE} {pos : Pos} {n : Str} (T : XfC X.K D) (hno : PySem.W.findIn X.K (.ref D) n = some none) (hp : p ∈ X.pn) (hx : IsEx D d p) (he : PE X e te)
    (hb : attributeBase e n X.env (eval e X.env) = eval e X.env := by rfl) : PE X (.Attribute e n pos) (tXp p d n te) := by
  refine ⟨fun pins s σ H Q I want => attr_of hb (thn (he.run pins s σ H _ I want) fun u s1 z => ?_)⟩
  obtain ⟨x, H1, I1, rx, rfl, b, fs, v, eb, hb1, hl, go⟩ := z
  obtain rfl : u = Value.ref p.1 := rx
  have here := (I1.pin p (List.mem_append_left _ hp)).1
  obtain ⟨ws, hw⟩ := hx.fs
  obtain ⟨mA, hns, rel⟩ := (show ObjOk X.prog X.w H1 s1.heap b (.xd fs) from I1.hok b _ hb1)
  obtain ⟨ob, hob, look⟩ := lookIn_ns hns
  obtain ⟨uv, hu, ru⟩ := RelO.some_of (v := v) (o := mA n) (hl ▸ rel n)
  have nc : PySem.W.notCls p.2 = true := by
    unfold PySem.W.notCls
    rw [hw]
  have J : PySem.W.InstAt s1.heap p.1 p.2 D (some ob) := ⟨here, hx.cl, nc, by
    rw [hx.di, eb]
    exact hob⟩
  exact HandSPX.exc_get I1.kIn J T.ga T.gg T.exC (PySem.W.findObj_own T.hdC hno rfl (by rw [look, hu])) (handed_of ru) ⟨v, H1, I1.tok _, ru, go⟩
/-- isinstance(e, (A, ..)) of the pinned one -/
def rIsT (K : PySem.W.Frag) (D : Addr) (d : Option Addr) (p : Addr × Obj) : List V → Hp → VK → Prop := fun xs H Q => ∃ (t : Addr) (cs : List Addr) (b : Bool), xs = [.ref p.1, .ref t] ∧ SqT K H t (cs.map V.ref) ∧ (∀ a, d = some a → ∃ fs, H a = some (.xd fs)) ∧ PySem.W.kitAny K (.ref D) (cs.map Value.ref) = some b ∧ Q (.bl b) H
theorem call_isT (C : ExK X.K D) (hp : p ∈ X.pn) (hx : IsEx D d p) : CallR X (.builtin "isinstance") (rIsT X.K D d p) := by
  intro pins s σ H xs us Q I r h
  obtain ⟨t, cs, b, rfl, ht, hd, e, q⟩ := h
  match us, r with
  | [_, u], .cons r1 (.cons r2 .nil) =>
    cases r1
    obtain rfl : u = Value.ref t := r2
    obtain ⟨its, rv, ⟨⟨c0, dd, dat, sl⟩, ho, hc, n, hdat⟩, _⟩ := I.tuple ht
    have ei := refs_at rv
    subst ei
    dsimp only at hc hdat
    subst hc
    subst hdat
    have y := (I.pin p (List.mem_append_left _ hp)).1
    obtain ⟨vs, hv⟩ := hx.fs
    have nc : PySem.W.notCls p.2 = true := by
      unfold PySem.W.notCls
      rw [hv]
    have J : ∃ od, PySem.W.InstAt s.heap p.1 p.2 D od := by
      cases d with
      | none => exact ⟨none, y, hx.cl, nc, by
          rw [hx.di]
          trivial⟩
      | some a =>
        obtain ⟨fs, hd⟩ := hd a rfl
        obtain ⟨mA, hns, _⟩ := (show ObjOk X.prog X.w H s.heap a (.xd fs) from I.hok a _ hd)
        obtain ⟨od, ho, _⟩ := lookIn_ns hns
        exact ⟨some od, y, hx.cl, nc, by
          rw [hx.di]
          exact ho⟩
    obtain ⟨od, J⟩ := J
    exact PySem.W.kia_tup (PySem.W.kitx_exc C.cl C.ga C.gt C.sb C.ca C.cg C.tc C.mo) I.kIn J ho e (fun z => nomatch z) fun tk => ⟨.bl b, H, I.kept (t' := tk) fun _ _ z => z, rfl, q⟩
end
end Tc
namespace K19
open PySem L2 PyProof.Rows Tc Evl
def topS (i : Nat) : Stmt := PySem.Challenge.pw_tidecopy_k19_new_takers.main.body.getD i (.Pass ⟨0, 0, 0, 0⟩)
abbrev sRi : Stmt := topS 32
abbrev sSo : Stmt := topS 34
abbrev sLp : Stmt := topS 36
abbrev sKr : Stmt := topS 37
abbrev sBag : Stmt := topS 41
abbrev sTake : Stmt := topS 42
abbrev sOf : Stmt := topS 43
abbrev sKeys : Stmt := topS 45
abbrev sTab : Stmt := topS 46
abbrev sPairs : Stmt := topS 47
abbrev sStr : Stmt := topS 48
abbrev sSpans : Stmt := topS 49
abbrev sKinds : Stmt := topS 44
abbrev sField : Stmt := topS 50
abbrev sWof : Stmt := topS 54
abbrev cNoKey : Stmt := topS 23
abbrev cNotSure : Stmt := topS 24
abbrev sLaw : Stmt := topS 55
theorem scBag : FnScope ["script", "k", "cell"] ["script", "k"] (defScope sBag) := ⟨rfl, rfl, rfl, by decide +kernel, rfl, by decide +kernel, by decide +kernel⟩
theorem scTake : FnScope ["bag", "many", "found"] ["bag", "many"] (defScope sTake) := ⟨rfl, rfl, rfl, by decide +kernel, rfl, by decide +kernel, by decide +kernel⟩
theorem scOf : FnScope ["bag", "some"] ["bag", "some"] (defScope sOf) := ⟨rfl, rfl, rfl, by decide +kernel, rfl, by decide +kernel, by decide +kernel⟩
theorem scKeys : FnScope ["bag", "step", "first", "at"] ["bag"] (defScope sKeys) := ⟨rfl, rfl, rfl, by decide +kernel, rfl, by decide +kernel, by decide +kernel⟩
theorem scTab : FnScope ["bag", "keys", "key"] ["bag", "keys"] (defScope sTab) := ⟨rfl, rfl, rfl, by decide +kernel, rfl, by decide +kernel, by decide +kernel⟩
/-- what the module's names hold -/
structure Names (mg : Str → Option Value) : Prop where
  len : mg "len" = none
  range : mg "range" = none
  set : mg "set" = none
  sorted : mg "sorted" = none
  tuple : mg "tuple" = none
  abs : mg "abs" = none
  min : mg "min" = none
  dict : mg "dict" = none
  list : mg "list" = none
  enumerate : mg "enumerate" = none
  int : mg "int" = none
  isinstance : mg "isinstance" = none
  ve : mg "ValueError" = none
def once (ks : List Int) : List Int := ((List.range 1000).map Int.ofNat).filter (fun k => decide (k ∈ ks))
theorem once_pw (ks : List Int) : (once ks).Pairwise (· < ·) := by
  unfold once
  refine List.Pairwise.filter _ (List.pairwise_map.mpr ?_)
  exact List.pairwise_lt_range.imp fun h => Int.ofNat_lt.mpr h
theorem once_mem (ks : List Int) (hb : ∀ k ∈ ks, 0 ≤ k ∧ k < 1000) (k : Int) : k ∈ once ks ↔ k ∈ ks := by
  unfold once
  rw [List.mem_filter, decide_eq_true_eq]
  refine ⟨fun h => h.2, fun h => ⟨?_, h⟩⟩
  have := hb k h
  exact List.mem_map.mpr ⟨k.toNat, List.mem_range.mpr (by omega), by
    show ((k.toNat : Nat) : Int) = k
    omega⟩
theorem once_len (ks : List Int) : (once ks).length ≤ 1000 := by
  unfold once
  refine Nat.le_trans (List.length_filter_le _ _) ?_
  rw [List.length_map, List.length_range]
  exact Nat.le_refl _
theorem once_few (ks : List Int) (hb : ∀ k ∈ ks, 0 ≤ k ∧ k < 1000) : (once ks).length ≤ ks.length := len_sub ((once_pw ks).imp fun {a b} z e => by omega) fun x m => (once_mem ks hb x).mp m
theorem cut_nat (us : List V) (lo hi : Nat) (h1 : lo ≤ hi) : cutV us (some (lo : Int)) (some (hi : Int)) = (us.drop lo).take (hi - lo) := by
  unfold cutV
  rw [HT.sIx_nat, HT.sIx_nat]
  refine List.ext_getElem? fun i => ?_
  rw [List.getElem?_take, List.getElem?_take, List.getElem?_drop, List.getElem?_drop]
  by_cases c : lo ≤ us.length
  · rw [Nat.min_eq_left c]
    by_cases d : i < hi - lo
    · rw [if_pos d]
      by_cases e : i < min hi us.length - lo
      · rw [if_pos e]
      · rw [if_neg e, List.getElem?_eq_none (by omega)]
    · rw [if_neg d, if_neg (by omega)]
  · rw [if_neg (by omega), List.getElem?_eq_none (l := us) (i := lo + i) (by omega)]
    split <;> rfl
theorem dps_cutN {K : PySem.W.Frag} {H : Hp} {us : List V} {ds : List PyData} (h : DpAll K H us ds) (lo n : Nat) : DpAll K H ((us.drop lo).take n) ((ds.drop lo).take n) := dps_take n (dps_drop lo h)
theorem en_kind {ks : List Int} {d : PyData} (h : goodEn ks d = true) : (∃ cs, d = .tuple [.str "group", .tuple cs] ∧ ∀ c ∈ cs, goodCh ks c = true) ∨ ∃ (s : Str) (i j : Int), d = .tuple [.str s, .int i, .int j] ∧ s ≠ "group" := by
  unfold goodEn at h
  split at h
  · rename_i s cs
    rw [Bool.and_eq_true, List.all_eq_true] at h
    rw [of_decide_eq_true h.1]
    exact .inl ⟨cs, rfl, h.2⟩
  · rename_i s i j
    refine .inr ⟨s, i, j, rfl, fun z => ?_⟩
    rw [decide_eq_true z] at h
    cases h
  · cases h
theorem ch_kindW {ks : List Int} {d : PyData} (h : goodCh ks d = true) : (∃ k, d = .tuple [.str "drop", .int k] ∧ k ∈ ks) ∨ ∃ (k z : Int), d = .tuple [.str "put", .int k, .int z] ∧ k ∈ ks ∧ (0 ≤ z ∧ z < 1000) := by
  unfold goodCh at h
  split at h
  · rename_i s k
    rw [Bool.and_eq_true] at h
    rw [of_decide_eq_true h.1]
    exact .inl ⟨k, rfl, of_decide_eq_true h.2⟩
  · rename_i s k z
    rw [Bool.and_eq_true, Bool.and_eq_true] at h
    rw [of_decide_eq_true h.1]
    exact .inr ⟨k, z, rfl, of_decide_eq_true h.2.1, of_decide_eq_true h.2.2⟩
  · cases h
theorem ch_kind {ks : List Int} {d : PyData} (h : goodCh ks d = true) : (∃ k, d = .tuple [.str "drop", .int k] ∧ k ∈ ks) ∨ ∃ (k z : Int), d = .tuple [.str "put", .int k, .int z] ∧ k ∈ ks := by
  rcases ch_kindW h with ⟨k, e, m⟩ | ⟨k, z, e, m, _⟩
  · exact .inl ⟨k, e, m⟩
  · exact .inr ⟨k, z, e, m⟩
def spTabP (K : PySem.W.Frag) : Sp := fun vs H Q _ => ∃ (b l : Addr) (ks : List Int), vs = [.ref b, .ref l] ∧ Bag H b ∧ KeysAt b H l ks ∧ ∀ p rs H', Tc.Fr b H H' → TP K H' p rs → (∀ r ∈ rs, r.1 ∈ ks) → (∀ r ∈ rs, 0 ≤ r.2 ∧ r.2 < 1000) → rs.length ≤ ks.length → Q (.ref p) H'
section
variable {P : Program} {w : World} {K : PySem.W.Frag} {mg : Str → Option Value} {base : Heap}
theorem dpt2 {H : Hp} {v : V} {d0 d1 : PyData} (h : Dp K H v (.tuple [d0, d1])) : ∃ a x0 x1, v = .ref a ∧ SqT K H a [x0, x1] ∧ Dp K H x0 d0 ∧ Dp K H x1 d1 := by
  cases h with
  | tup hs r =>
    cases r with
    | cons h0 r =>
      cases r with
      | cons h1 r =>
        cases r
        exact ⟨_, _, _, rfl, hs, h0, h1⟩
theorem dpt3 {H : Hp} {v : V} {d0 d1 d2 : PyData} (h : Dp K H v (.tuple [d0, d1, d2])) : ∃ a x0 x1 x2, v = .ref a ∧ SqT K H a [x0, x1, x2] ∧ Dp K H x0 d0 ∧ Dp K H x1 d1 ∧ Dp K H x2 d2 := by
  cases h with
  | tup hs r =>
    cases r with
    | cons h0 r =>
      cases r with
      | cons h1 r =>
        cases r with
        | cons h2 r =>
          cases r
          exact ⟨_, _, _, _, rfl, hs, h0, h1, h2⟩
theorem g_name {i : Nat} {v : V} {σ : L2.St} {H : Hp} {Q : L2.St → Hp → Prop} (h : Q (σ.set i (some v)) H) : gName i v σ H Q := h
theorem t_asg {te : TE} {g : TG} {D : Ends} {σ : L2.St} {H : Hp} (h : te σ H fun x H1 => g x σ H1 D.nx) : tAsg te g D σ H := h
theorem ok_take {f : Addr} {fd : FuncData} {k : Nat} (F : Fun K "_law_take" "_law_take" sTake f fd) : FnOk P w K mg base CX0 (k + 1) f fd ["bag", "many"] spTake := by
  refine F.ok scTake (fun vs H Q E h => ?_) (fun cdv A outer s H vs Q E hr h => ?_)
  · obtain ⟨b, m, rfl, _⟩ := h
    rfl
  · obtain ⟨b, m, rfl, ⟨x, y, hb, hx, hy, hz⟩, hm, hm2, q⟩ := h
    refine ⟨_, pss_cons (ps_if (pt_cmpR op_gt (pe_ix ix_list (pv 0) pe_int (fun _ _ => rfl)) pe_int (nomark _))
        (pss_cons (ps_set (i := 2) scTake.nd rfl (.inl rfl) (pe_op op_mod (pe_ix ix_list (pv 0) pe_int (fun _ _ => rfl)) (pv 1)))
        (pss_cons (ps_asg (pe_op op_fdiv (pe_ix ix_list (pv 0) pe_int (fun _ _ => rfl)) (pv 1)) (pg_sub (pv 0) pe_int set_list))
        (pss_one (ps_ret (pv 2))))) pss_nil)
      (pss_cons (ps_asg (pe_op op_mod (pe_op op_mul (pe_ix ix_list (pv 0) pe_int (fun _ _ => rfl)) pe_int) pe_int) (pg_sub (pv 0) pe_int set_list))
      (pss_one (ps_ret (pe_op op_mod (pe_op op_fdiv (pe_op op_mod (pe_op op_mul (pe_ix ix_list (pv 0) pe_int (fun _ _ => rfl)) (pe_ix ix_list (pv 0) pe_int (fun _ _ => rfl))) pe_int) pe_int) (pv 1))))), ?_⟩
    have hS : SqL K H b [.int x, .int y] := sq_of hb
    refine s_if (et_test (ev_op (ev_l0 (ev_var rfl) hS) ev_c rv_I0)) (fun e H1 x1 => ?_) (fun e H1 x1 => ?_)
    · refine s_seq (s_asg (ev_op (ev_l0 (ev_var rfl) (ex_l x1 hS)) (ev_var rfl) (rv_mod hm)) fun H2 x2 => s_seq ?_)
      refine s_setL (l := b) (j := 0) (x2 b _ (x1 b _ hb)) (ev_op (ev_l0 (ev_var rfl) (ex_l (x1.trans x2) hS)) (ev_var rfl) (rv_fdiv hm hm2)) (ev_var rfl) ev_c (by simp) fun H3 x3 => ?_
      refine s_ret (ev_var rfl) fun H4 x4 => q _ _ ((Fr.put ((x1.trans x2).trans x3) (Int.ediv_nonneg hx (by omega)) hy hz).trans (Fr.ex ?_ x4)) (Int.emod_nonneg _ (by omega)) (Int.emod_lt_of_pos _ hm)
      exact ⟨x / m, y, upd_same, Int.ediv_nonneg hx (by omega), hy, hz⟩
    · have hS1 := ex_l x1 hS
      refine s_next (s_seq (s_setL (l := b) (j := 1) (x1 b _ hb) (ev_op (ev_op (ev_l1 (ev_var rfl) hS1) ev_c (rv_mul (.inl ⟨by omega, by omega⟩))) ev_c (rv_mod (by decide))) (ev_var rfl) ev_c (by simp) fun H2 x2 => ?_))
      have y1 := Int.emod_nonneg (y * 48271) (b := 2147483647) (by decide)
      have y2 := Int.emod_lt_of_pos (y * 48271) (b := 2147483647) (by decide)
      generalize hyy : y * 48271 % 2147483647 = yy at y1 y2
      have hb2 : (upd H2 b (.lst [.int x, .int yy])) b = some (.lst [.int x, .int yy]) := upd_same
      have hB : Bag (upd H2 b (.lst [.int x, .int yy])) b := ⟨x, yy, upd_same, hx, y1, by omega⟩
      have hS2 : SqL K (upd H2 b (.lst [.int x, .int yy])) b [.int x, .int yy] := sq_of upd_same
      refine s_ret (ev_op (ev_op (ev_op (ev_op (ev_l1 (ev_var rfl) hS2) (ev_l1 (ev_var rfl) hS2) (rv_mul (.inl ⟨by omega, by omega⟩))) ev_c (rv_mod (by decide))) ev_c (rv_fdiv (by decide) (by decide))) (ev_var rfl) (rv_mod hm)) fun H4 x4 => ?_
      exact q _ _ ((Fr.put (x1.trans x2) hx y1 (by omega)).trans (Fr.ex hB x4)) (Int.emod_nonneg _ (by omega)) (Int.emod_lt_of_pos _ hm)
theorem ok_bag {f : Addr} {fd : FuncData} {k : Nat} (F : Fun K "_law_bag" "_law_bag" sBag f fd) (N : Names mg) : FnOk P w K mg base CX0 (k + 1) f fd ["script", "k"] (spBag K) := by
  refine F.ok scBag (fun vs H Q E h => ?_) (fun cdv A outer s H vs Q E hr h => ?_)
  · obtain ⟨a, ns, k, rfl, _⟩ := h
    rfl
  · obtain ⟨a, ns, n, rfl, hS, hn, q⟩ := h
    refine ⟨_, pss_cons (ps_set (i := 2) scBag.nd rfl (.inl rfl) pe_int)
      (Evl.pss_cut (ps_if (pt_cmpR op_lt (pv 1) (pe_callB call_len_seq (by rfl) N.len PySem.boot_len (pa_cons (pv 0) pa_nil)) (nomark _)) (pss_one (ps_set (i := 2) scBag.nd rfl (.inl rfl) (pe_callB call_abs (by rfl) N.abs boot_abs (pa_cons (pe_ix ix_list (pv 0) (pv 1) (fun _ _ => rfl)) pa_nil)))) pss_nil)
      (pss_cons (ps_if (pt_cmpR op_lt (pv 2) (pe_op op_pow pe_int pe_int) (nomark _)) (pss_one (ps_ret (pe_lst (pa_cons pe_int (pa_cons (pe_op op_add pe_int (pe_op op_mod (pe_op op_add (pe_op op_mul (pv 2) pe_int) (pe_op op_mul pe_int (pv 1))) pe_int)) pa_nil))))) pss_nil)
      (pss_one (ps_ret (pe_lst (pa_cons (pv 2) (pa_cons (pe_op op_add pe_int (pe_op op_mod (pe_op op_add (pv 2) (pv 1)) pe_int)) pa_nil))))))), ?_⟩
    refine s_seq (s_asg ev_c fun H1 x1 => ⟨fun σ' H' => ∃ c : Int, σ' = [some (.ref a), some (.int (n : Int)), some (.int c)] ∧ Ex H H' ∧ 0 ≤ c, ?_, fun σ' H' m => ?_⟩)
    · refine s_if (et_test (ev_op (ev_var rfl) (ev_len (ev_var rfl) (ex_l x1 hS)) rv_I0)) (fun e H2 x2 => ?_) (fun e H2 x2 => ⟨0, rfl, x1.trans x2, by decide⟩)
      have e1 := of_decide_eq_true e
      rw [List.length_map] at e1
      have hlt : n < ns.length := by omega
      have hx : (ns.map V.int)[n]? = some (.int ns[n]) := by
        rw [List.getElem?_map, List.getElem?_eq_getElem hlt]
        rfl
      refine s_asg (ev_abs (ev_lx (ev_var rfl) (ev_var rfl) (ex_l (x1.trans x2) hS) hx)) fun H3 x3 => ⟨_, rfl, (x1.trans x2).trans x3, ?_⟩
      split <;> omega
    · obtain ⟨c, rfl, xx, hc⟩ := m
      refine s_seq (s_if (et_test (ev_op (ev_var rfl) (ev_op ev_c ev_c (rv_pow ⟨by decide, by decide, by decide⟩)) rv_I0)) (fun e H2 x2 => ?_) (fun e H2 x2 => s_next ?_))
      · refine s_retL (el_lst (ea_cons ev_c (ea_cons (ev_op ev_c (ev_op (ev_op (ev_op (ev_var rfl) ev_c (rv_mul (.inr ⟨by decide, by decide⟩))) (ev_op ev_c (ev_var rfl) (rv_mul (.inl ⟨by decide, by decide⟩))) rv_add) ev_c (rv_mod (by decide))) rv_add) ea_nil)) (by simp)) fun p H3 hp x3 hb => ?_
        have y1 := Int.emod_nonneg (c * 7919 + 104729 * (n : Int)) (b := 2147483646) (by decide)
        have y2 := Int.emod_lt_of_pos (c * 7919 + 104729 * (n : Int)) (b := 2147483646) (by decide)
        exact q p H3 (fresh_back (xx.trans x2) hp) ((xx.trans x2).trans x3) ⟨_, _, hb, by decide, by omega, by omega⟩
      · refine s_retL (el_lst (ea_cons (ev_var rfl) (ea_cons (ev_op ev_c (ev_op (ev_op (ev_var rfl) (ev_var rfl) rv_add) ev_c (rv_mod (by decide))) rv_add) ea_nil)) (by simp)) fun p H3 hp x3 hb => ?_
        have y1 := Int.emod_nonneg (c + (n : Int)) (b := 2147483646) (by decide)
        have y2 := Int.emod_lt_of_pos (c + (n : Int)) (b := 2147483646) (by decide)
        exact q p H3 (fresh_back (xx.trans x2) hp) ((xx.trans x2).trans x3) ⟨_, _, hb, hc, by omega, by omega⟩
theorem ok_keys {f : Addr} {fd : FuncData} {k : Nat} (F : Fun K "_law_keys" "_law_keys" sKeys f fd) (N : Names mg) (dT : Own P w K mg base "_law_take" ["bag", "many"] k spTake) : FnOk P w K mg base CX0 (k + 1) f fd ["bag"] spKeysQ := by
  refine F.ok scKeys (fun vs H Q E h => ?_) (fun cdv A outer s H vs Q E hr h => ?_)
  · obtain ⟨b, rfl, _⟩ := h
    rfl
  · obtain ⟨b, rfl, hB, q⟩ := h
    refine ⟨_, pss_cons (ps_set (i := 1) scKeys.nd rfl (.inr rfl) (pe_ix ix_list (pe_lst (pa_cons pe_int (pa_cons pe_int (pa_cons pe_int (pa_cons pe_int pa_nil))))) (pe_own dT hr (Nat.le_refl _) (by rfl) (pa_cons (pv 0) (pa_cons pe_int pa_nil))) (fun _ _ => rfl)))
      (pss_cons (ps_set (i := 2) scKeys.nd rfl (.inr rfl) (pe_own dT hr (Nat.le_refl _) (by rfl) (pa_cons (pv 0) (pa_cons (pe_op op_sub pe_int (pe_op op_mul pe_int (pv 1))) pa_nil))))
      (pss_one (ps_ret (pe_callB (cr_sortedSetA rfl) (by rfl) N.sorted boot_sorted (pa_cons (pe_callTy (cr_setL rfl) (by rfl) N.set boot_set (pa_cons (pe_op op_cat (pe_lc (own := [("at", 3)]) (g := gName 3) (tt := tYes) (te := tOp (rI0 fun i j => .int (i + j)) (tVar 2) (tOp (rI CMul fun i j => .int (i * j)) (tVar 1) (tVar 3))) rfl scKeys.nd
          (pi_range1 rfl N.range (pa_cons pe_int pa_nil)) (blkOk_by (N := ["bag", "step", "first", "at"]) (sc := defScope sKeys) (by decide +kernel)) (fun _ _ _ _ _ => pg_name (i := 3) scKeys.nd rfl (Or.inl rfl)) (fun _ _ _ _ _ => pts_nil) (fun _ _ _ _ _ => pe_op op_add (pv 2) (pe_op op_mul (pv 1) (pv 3))))
        (pe_lst (pa_cons pe_int (pa_cons pe_int pa_nil)))) pa_nil)) pa_nil))))), ?_⟩
    refine s_seq (item_new (b := b) (xs := [.int 1, .int 2, .int 7, .int 90]) (el_lst (ea_cons ev_c (ea_cons ev_c (ea_cons ev_c (ea_cons ev_c ea_nil)))) (by simp)) hB (fun H1 f1 Q q => take_of (m := 4) f1.bag (ea_cons (ev_var rfl) (ea_cons ev_c ea_nil)) (by decide) (by decide) q) fun v H1 f1 hv => ?_)
    obtain ⟨st, rfl, hst⟩ : ∃ st : Int, v = .int st ∧ (st = 1 ∨ st = 2 ∨ st = 7 ∨ st = 90) := by
      simp only [List.mem_cons, List.not_mem_nil, or_false] at hv
      rcases hv with h | h | h | h <;> exact ⟨_, h, by simp⟩
    refine s_seq (take_of (b := b) (m := 1000 - 9 * st) f1.bag (ea_cons (ev_var rfl) (ea_cons (ev_op ev_c (ev_op ev_c (ev_var rfl) (rv_mul (.inl ⟨by decide, by decide⟩))) rv_sub) ea_nil)) (by omega) (by omega) fun r H2 f2 h0 h1 => ?_)
    have hks : ((List.range 10).map fun (i : Nat) => V.int (r + st * (i : Int))) ++ [V.int 0, V.int 999] = (((List.range 10).map fun (i : Nat) => r + st * (i : Int)) ++ [0, 999]).map V.int := by
      rw [List.map_append, List.map_map]
      rfl
    have hb : ∀ k ∈ ((List.range 10).map fun (i : Nat) => r + st * (i : Int)) ++ [0, 999], 0 ≤ k ∧ k < 1000 := fun k m => by
      rcases List.mem_append.mp m with m | m
      · obtain ⟨i, hi, rfl⟩ := List.mem_map.mp m
        have := List.mem_range.mp hi
        rcases hst with h | h | h | h <;> subst h <;> omega
      · simp only [List.mem_cons, List.not_mem_nil, or_false] at m
        omega
    refine s_retL (el_sortset (ns := ((List.range 10).map fun (i : Nat) => r + st * (i : Int)) ++ [0, 999]) (ms := once (((List.range 10).map fun (i : Nat) => r + st * (i : Int)) ++ [0, 999])) (el_is (el_cat (xs := (List.range 10).map fun (i : Nat) => V.int (r + st * (i : Int))) (el_is (el_lcR1 (n := 10) (fun _ => true) (fun i => V.int (r + st * (i : Int))) (ea_cons ev_c ea_nil) (by decide) (fun x => rfl) (fun i H1 e hi => et_yes)
      (fun i H1 e hi _ => ev_op (ev_var rfl) (ev_op (ev_var rfl) (ev_var rfl) (rv_mul (.inl ?_))) rv_add)) (given_all _ _)) (el_lst (ea_cons ev_c (ea_cons ev_c ea_nil)) (by simp)) (by simp)) hks) (by simp) fun l h3 h4 => rising_one l _ h3 (once_pw _) fun k => (h4 k).trans (once_mem _ hb k).symm) fun p H3 hp x3 h3 => ?_
    · rcases hst with h | h | h | h <;> subst h <;> decide
    · exact q p _ H3 ((f1.trans f2).trans (Fr.ex f2.bag x3)) ⟨f2.bag.ne hp, h3, fun k m => hb k ((once_mem _ hb k).mp m), once_len _, List.length_pos_of_mem ((once_mem _ hb 0).mpr (by simp))⟩ (Nat.lt_of_le_of_lt (once_few _ hb) (by simp))
theorem ok_of {f : Addr} {fd : FuncData} {kT kO kC k : Nat} (F : Fun K "_law_of" "_law_of" sOf f fd) (N : Names mg) (dT : Own P w K mg base "_law_take" ["bag", "many"] kT spTake) (hT : kT ≤ k) : FnOk P w K mg base CX0 (k + 1) f fd ["bag", "some"] spOf := by
  refine F.ok scOf (fun vs H Q E h => ?_) (fun cdv A outer s H vs Q E hr h => ?_)
  · obtain ⟨b, l, ks, rfl, _⟩ := h
    rfl
  · obtain ⟨b, l, ks, rfl, hB, hk, q⟩ := h
    refine ⟨_, (pss_one (ps_ret (pe_ix ix_list (pv 1) (pe_own dT hr hT (by rfl) (pa_cons (pv 0) (pa_cons (pe_callB call_len_seq (by rfl) N.len PySem.boot_len (pa_cons (pv 1) pa_nil)) pa_nil))) (fun _ _ => rfl)))), ?_⟩
    refine ⟨.ref l, rfl, take_of (b := b) (m := (ks.length : Int)) hB (ea_cons (ev_var rfl) (ea_cons (ev_is (ev_len (ev_var rfl) (sq_of hk.h)) (by rw [List.length_map])) ea_nil)) (by have := hk.some; omega) (by have := hk.few; omega) fun r H1 f1 r0 r1 => ?_⟩
    obtain ⟨n, rfl⟩ : ∃ n : Nat, r = (n : Int) := ⟨r.toNat, by omega⟩
    have hn : n < ks.length := by omega
    exact ⟨l, ks.map V.int, n, .int ks[n], rfl, rfl, sq_of (hk.fr f1).h, atI_nat (by rw [List.getElem?_map, List.getElem?_eq_getElem hn]; rfl), q _ _ (List.getElem_mem hn) f1⟩
/-- tuple(..) of what was collected, a tuple without a dict -/
theorem colP {b : Addr} {g : PyData → Bool} {H : Hp} {te : TE} {σ : L2.St} {Q : VK} {i : Nat} (h : ∀ Q' : VK, (∀ p H', Col b K g H p i H' → Q' (.ref p) H') → te σ H Q')
    (q : ∀ p ds H', Tc.Fr b H H' → (∃ xs, PT H' p xs ∧ DpAll K H' xs ds) → (∀ d ∈ ds, g d = true) → ds.length ≤ i → Q (.ref p) H') : tCB (rTupP K) (tCons te tNil) σ H Q :=
  h _ fun p H' c => by
    obtain ⟨vs, ds, h1, h2, h3, h4⟩ := c.ex
    exact ⟨p, vs, rfl, sq_of h1, fun l o hl od => q l ds _ (c.fr.trans (Fr.new c.fr.bag hl)) ⟨vs, ⟨o, upd_same, od⟩, dps_same (Ex.new hl) _ _ (dps_same (hid_same b _) _ _ (dps_same (hid_same p _) _ _ h2))⟩ h4 (by have hl2 := dps_len h2; omega)⟩
theorem ok_tab {f : Addr} {fd : FuncData} {k : Nat} (F : Fun K "_law_table" "_law_table" sTab f fd) (N : Names mg) (dT : Own P w K mg base "_law_take" ["bag", "many"] k spTake) : FnOk P w K mg base CX0 (k + 1) f fd ["bag", "keys"] (spTabP K) := by
  refine F.ok scTab (fun vs H Q E h => ?_) (fun cdv A outer s H vs Q E hr h => ?_)
  · obtain ⟨b, l, ks, rfl, _⟩ := h
    rfl
  · obtain ⟨b, l, ks, rfl, hB, hka, q⟩ := h
    have hl := hka.h
    have hlb := hka.ne
    have hk := hka.bd
    have hn := hka.few
    refine ⟨_, pss_one (ps_ret (pe_callTy cr_tupP (by rfl) N.tuple boot_tuple (pa_cons (pe_lc (own := [("key", 2)]) (g := gName 2) (tt := tTest (tOp (rI0 fun i j => .bl (decide (j < i))) (tCall spTake [] E0 (tCons (tVar 0) (tCons (tC (.int 3)) tNil))) (tC (.int 0))))
        (te := tTup (tCons (tVar 2) (tCons (tCall spTake [] E0 (tCons (tVar 0) (tCons (tC (.int 1000)) tNil))) tNil))) rfl scTab.nd (pi_list (pv 1)) (blkOk_by (N := ["bag", "keys", "key"]) (sc := defScope sTab) (by decide +kernel)) (fun _ _ _ _ _ => pg_name (i := 2) scTab.nd rfl (Or.inl rfl))
        (fun _ _ _ _ _ => pts_one (pt_cmpR op_gt (pe_own dT hr (Nat.le_refl _) (by rfl) (pa_cons (pv 0) (pa_cons pe_int pa_nil))) pe_int (nomark _)))
        (fun _ _ _ _ _ => pe_tup (pa_cons (pv 2) (pa_cons (pe_own dT hr (Nat.le_refl _) (by rfl) (pa_cons (pv 0) (pa_cons pe_int pa_nil))) pa_nil)))) pa_nil))), ?_⟩
    refine colP (b := b) (K := K) (g := goodRow ks) (i := ks.length) (fun Q' q' => ?_) fun p ds H' fr tp h2 hl2 => ?_
    · refine ⟨.ref l, rfl, l, rfl, ⟨_, sq_of hl⟩, fun D hD => ?_⟩
      refine lc_list (K := K) (xs := ks.map V.int) (Col b K (goodRow ks) H D) (Col.start hB hD) (fun i H' _ c => sq_of (c.fr.at hl hlb)) (fun i x H' hx c => ⟨rfl, ?_⟩) (fun H' c => q' D H' (by rw [List.length_map] at c; exact c))
      rw [List.getElem?_map] at hx
      obtain ⟨kk, hkk, rfl⟩ := Option.map_eq_some_iff.mp hx
      have hi : i < ks.length := (List.getElem?_eq_some_iff.mp hkk).1
      have hb := hk kk (List.mem_of_getElem? hkk)
      refine take_of (b := b) (m := 3) c.fr.bag (ea_cons (ev_var rfl) (ea_cons ev_c ea_nil)) (by decide) (by decide) fun r H1 f1 r0 r1 => ⟨r, 0, rfl, rfl, _, rfl, ite2 (fun e => ?_) (fun e => c.skip f1)⟩
      refine ⟨.int kk, rfl, take_of (b := b) (m := 1000) f1.bag (ea_cons (ev_var rfl) (ea_cons ev_c ea_nil)) (by decide) (by decide) fun r2 H2 f2 r3 r4 => ⟨sz_of (by simp), fun p hp => ?_⟩⟩
      exact c.push ((f1.trans f2).trans (Fr.new f2.bag hp)) (dp_pair f2.bag (c.skip (f1.trans f2)).at hp) (by
        show (decide (kk ∈ ks) && decide (0 ≤ r2 ∧ r2 < 1000)) = true
        rw [decide_eq_true (List.mem_of_getElem? hkk), decide_eq_true ⟨r3, r4⟩]
        rfl) (by omega)
    · obtain ⟨rs, rfl, hr, hw⟩ := good_rows h2
      exact q p rs H' fr tp hr hw (by rw [List.length_map] at hl2; exact hl2)
end
end K19
namespace K19
open PySem L2 PyProof.Rows Tc Evl
theorem scPairs : FnScope ["rows", "key"] ["rows"] (defScope sPairs) := ⟨rfl, rfl, rfl, by decide +kernel, rfl, by decide +kernel, by decide +kernel⟩
/-- the rows of a dict, by keys -/
def spPairs (K : PySem.W.Frag) : Sp := fun vs H Q _ => ∃ (D : Addr) (ks : List Int) (kvs : List (Key × V)) (f : Int → Option Int), vs = [.ref D] ∧ H D = some (.dK kvs) ∧ DI ks kvs f ∧ ks.length ≤ 1000 ∧
  ∀ p js H', H p = none → Ex H H' → KeysOf f js → (∀ j ∈ js, j ∈ ks) → TP K H' p (rowsOf f js) → Q (.ref p) H'
section
variable {P : Program} {w : World} {K : PySem.W.Frag} {mg : Str → Option Value} {base : Heap}
theorem ok_pairs {f : Addr} {fd : FuncData} {k : Nat} (F : Fun K "_law_pairs" "_law_pairs" sPairs f fd) (N : Names mg) : FnOk P w K mg base CX0 (k + 1) f fd ["rows"] (spPairs K) := by
  refine F.ok scPairs (fun vs H Q E h => ?_) (fun cdv A outer s H vs Q E hr h => ?_)
  · obtain ⟨D, ks, kvs, f, rfl, _⟩ := h
    rfl
  · obtain ⟨D, ks, kvs, f, rfl, hD2, di, h64, q⟩ := h
    refine ⟨_, pss_one (ps_ret (pe_callTy cr_tupP (by rfl) N.tuple boot_tuple (pa_cons (pe_lc (own := [("key", 1)]) (g := gName 1) (tt := tYes) (te := tTup (tCons (tVar 1) (tCons (tDGet (tVar 0) (tVar 1)) tNil))) rfl scPairs.nd (pi_list (pe_callB (cr_sortedDA rfl) (by rfl) N.sorted boot_sorted (pa_cons (pv 0) pa_nil))) (blkOk_by (N := ["rows", "key"]) (sc := defScope sPairs) (by decide +kernel)) (fun _ _ _ _ _ => pg_name (i := 1) scPairs.nd rfl (Or.inl rfl)) (fun _ _ _ _ _ => pts_nil) (fun _ _ _ _ _ => (pe_tup (pa_cons (pv 1) (pa_cons (pe_dget (hu_of hr) (pv 0) (pv 1) (fun _ _ => rfl)) pa_nil))))) pa_nil))), ?_⟩
    obtain ⟨js0, hks, nd, mem, hlen⟩ := di.keys
    refine ⟨.ref D, rfl, D, kvs, js0, rfl, .inl hD2, hks, fun ys p pm pw hp => ⟨p, rfl, ⟨_, sq_of upd_same⟩, fun D2 hD3 => ?_⟩⟩
    have ndy : ys.Nodup := pm.nodup_iff.mpr nd
    have kf : KeysOf f ys := ⟨lt_of_le_nodup pw ndy, fun k => (pm.mem_iff).trans (mem k)⟩
    have x3 : Ex H (upd H p (.lst (ys.map V.int))) := Ex.new hp
    generalize hH3 : upd H p (.lst (ys.map V.int)) = H3 at x3 hD3
    have hp3 : H3 p = some (.lst (ys.map V.int)) := by rw [← hH3]; exact upd_same
    refine lc_list (K := K) (a := p) (xs := ys.map V.int) (fun i H' => ∃ vs, Ex H3 H' ∧ H' D2 = some (.lst vs) ∧ vs.length = i ∧ DpAll K (hid D2 H') vs ((rowsOf f (ys.take i)).map Tc.pairD)) ⟨[], Ex.new hD3, upd_same, rfl, .nil⟩ (fun i H' _ h => ?_) (fun i x H' hx h => ⟨rfl, ?_⟩) (fun H' h => ?_)
    · obtain ⟨vs, x4, _⟩ := h
      exact sq_of (x4 p _ hp3)
    · obtain ⟨vs, x4, h4, hvl, hv⟩ := h
      rw [List.getElem?_map] at hx
      obtain ⟨kk, hkk, rfl⟩ := Option.map_eq_some_iff.mp hx
      have hm := (kf.2 kk).mp (List.mem_of_getElem? hkk)
      obtain ⟨ww, hww⟩ := Option.isSome_iff_exists.mp hm
      have hval : valV kvs (.inl kk) = some (.int ww) := by rw [di.val, hww]; rfl
      have hi : i < ys.length := (List.getElem?_eq_some_iff.mp hkk).1
      have hyl : ys.length = js0.length := pm.length_eq
      refine iteT (B := ∃ vs, Ex H3 H' ∧ H' D2 = some (.lst vs) ∧ vs.length = i + 1 ∧ DpAll K (hid D2 H') vs ((rowsOf f (ys.take (i + 1))).map Tc.pairD)) ?_
      refine ⟨.int kk, rfl, .ref D, rfl, .int kk, rfl, D, .int ww, rfl, by rw [← hval]; exact DGet.k (k := .inl kk) (x4 D _ (x3 D _ hD2)), sz_of (by simp), fun t ht => ?_⟩
      have htD : t ≠ D2 := fun z => by
        subst z
        rw [h4] at ht
        cases ht
      have x5 : Ex H' (upd H' t (.tup [.int kk, .int ww])) := Ex.new ht
      refine ⟨vs, x5 D2 _ h4, sz_lt (by omega), vs ++ [.ref t], (x4.trans x5).mut hD3, upd_same, by simp [hvl], ?_⟩
      rw [hid_upd, List.take_succ, hkk]
      unfold rowsOf
      rw [List.map_append, List.map_append]
      refine dps_app (dps_same (ex_hid x5) _ _ hv) (.cons ?_ .nil)
      show Dp K _ (.ref t) (.tuple [.int kk, .int ((f kk).getD 0)])
      rw [hww]
      exact .tup (st_of (hid_at upd_same htD)) (.cons (.int kk) (.cons (.int ww) .nil))
    · obtain ⟨vs, x4, h4, _, hv⟩ := h
      rw [List.length_map, List.take_length] at hv
      refine ⟨D2, vs, rfl, sq_of h4, fun t o ht od => ?_⟩
      have xA : Ex H (upd H' t (.frz o (.tup vs))) := (x3.trans x4).trans (Ex.new ht)
      have tn : H t = none := by
        cases e : H t with
        | none => rfl
        | some u =>
          have := ((x3.trans x4) t u e).symm.trans ht
          cases this
      refine q t ys _ tn xA kf (fun j m => ?_) ⟨vs, ⟨o, upd_same, od⟩, dps_same (Ex.new ht) _ _ (dps_same (hid_same D2 H') _ _ hv)⟩
      have := (kf.2 j).mp m
      rw [← (mem j)] at this
      have h2 : (Sum.inl j : Key) ∈ kvs.map (·.1) := hks ▸ List.mem_map.mpr ⟨j, this, rfl⟩
      obtain ⟨pp, hp1, hp2⟩ := List.mem_map.mp h2
      obtain ⟨kk, hk1, hk2⟩ := di.inn pp hp1
      cases (hp2.symm.trans hk2 : (Sum.inl j : Key) = Sum.inl kk)
      exact hk1
end
end K19
namespace K19
open PySem L2 PyProof.Rows Tc Evl
theorem scStr : FnScope ["bag", "keys", "first", "wide"] ["bag", "keys"] (defScope sStr) := ⟨rfl, rfl, rfl, by decide +kernel, rfl, by decide +kernel, by decide +kernel⟩
def spStr (K : PySem.W.Frag) : Sp := fun vs H Q _ => ∃ (b l : Addr) (ks : List Int), vs = [.ref b, .ref l] ∧ Bag H b ∧ KeysAt b H l ks ∧ ∀ (x y : Int) (p : Addr) (H' : Hp), Tc.Fr b H H' → H p = none → p ≠ b → H' p = some (.tup [.int x, .int y]) → 0 ≤ x → x < 1000 → x < y → y ≤ 1000 → Q (.ref p) H'
section
variable {P : Program} {w : World} {K : PySem.W.Frag} {mg : Str → Option Value} {base : Heap}
theorem ok_str {f : Addr} {fd : FuncData} {kT kO k : Nat} (F : Fun K "_law_stretch" "_law_stretch" sStr f fd) (N : Names mg) (dT : Own P w K mg base "_law_take" ["bag", "many"] kT spTake) (hT : kT ≤ k) (dOf : Own P w K mg base "_law_of" ["bag", "some"] kO spOf) (hO : kO ≤ k) : FnOk P w K mg base CX0 (k + 1) f fd ["bag", "keys"] (spStr K) := by
  refine F.ok scStr (fun vs H Q E h => ?_) (fun cdv A outer s H vs Q E hr h => ?_)
  · obtain ⟨b, l, ks, rfl, _⟩ := h
    rfl
  · obtain ⟨b, l, ks, rfl, hB, hk, q⟩ := h
    refine ⟨_, (pss_cons (ps_set (i := 2) scStr.nd rfl (.inl rfl) (pe_ix ix_list (pe_lst (pa_cons (pe_own dOf hr hO (by rfl) (pa_cons (pv 0) (pa_cons (pv 1) pa_nil))) (pa_cons pe_int (pa_cons (pe_own dT hr hT (by rfl) (pa_cons (pv 0) (pa_cons pe_int pa_nil))) pa_nil)))) (pe_own dT hr hT (by rfl) (pa_cons (pv 0) (pa_cons pe_int pa_nil))) (fun _ _ => rfl)))
      (pss_cons (ps_set (i := 3) scStr.nd rfl (.inl rfl) (pe_ix ix_list (pe_lst (pa_cons pe_int (pa_cons (pe_op op_add pe_int (pe_own dT hr hT (by rfl) (pa_cons (pv 0) (pa_cons pe_int pa_nil)))) (pa_cons pe_int pa_nil)))) (pe_own dT hr hT (by rfl) (pa_cons (pv 0) (pa_cons pe_int pa_nil))) (fun _ _ => rfl)))
      (pss_one (ps_ret (pe_tup (pa_cons (pv 2) (pa_cons (pe_callB (call_min2 rfl) (by rfl) N.min boot_min (pa_cons pe_int (pa_cons (pe_op op_add (pv 2) (pv 3)) pa_nil))) pa_nil))))))), ?_⟩
    refine s_seq ⟨.ref b, rfl, .ref l, rfl, b, l, ks, rfl, hB, hk, fun kk H1 mk f1 => take_of (b := b) (m := 1000) f1.bag (ea_cons (ev_var rfl) (ea_cons ev_c ea_nil)) (by decide) (by decide) fun r1 H2 f2 a1 a2 => ⟨sz_of (by simp), fun L hL => ?_⟩⟩
    have fL := Fr.new (o := .lst [.int kk, .int 0, .int r1]) f2.bag hL
    refine take_of (b := b) (m := 3) fL.bag (ea_cons (ev_var rfl) (ea_cons ev_c ea_nil)) (by decide) (by decide) fun r2 H3 f3 a3 a4 => ?_
    have hL3 : H3 L = some (.lst [.int kk, .int 0, .int r1]) := f3.at upd_same (f2.bag.ne hL)
    have hkb := hk.bd kk mk
    obtain ⟨n, rfl⟩ : ∃ n : Nat, r2 = (n : Int) := ⟨r2.toNat, by omega⟩
    obtain ⟨x, hx, hxb⟩ : ∃ x : Int, [V.int kk, .int 0, .int r1][n]? = some (.int x) ∧ (0 ≤ x ∧ x < 1000) := by
      have : n = 0 ∨ n = 1 ∨ n = 2 := by omega
      rcases this with rfl | rfl | rfl
      · exact ⟨kk, rfl, hkb⟩
      · exact ⟨0, rfl, by decide⟩
      · exact ⟨r1, rfl, a1, a2⟩
    refine ⟨L, _, n, .int x, rfl, rfl, sq_of hL3, atI_nat hx, g_name ?_⟩
    dsimp only
    have fA := ((f1.trans f2).trans fL).trans f3
    refine s_seq (take_of (b := b) (m := 30) f3.bag (ea_cons (ev_var rfl) (ea_cons ev_c ea_nil)) (by decide) (by decide) fun r3 H4 f4 a5 a6 => ⟨1, r3, rfl, rfl, sz_of (by simp), fun L2 hL2 => ?_⟩)
    have fL2 := Fr.new (o := .lst [.int 1, .int (1 + r3), .int 1000]) f4.bag hL2
    refine take_of (b := b) (m := 3) fL2.bag (ea_cons (ev_var rfl) (ea_cons ev_c ea_nil)) (by decide) (by decide) fun r4 H5 f5 a7 a8 => ?_
    have hL5 : H5 L2 = some (.lst [.int 1, .int (1 + r3), .int 1000]) := f5.at upd_same (f4.bag.ne hL2)
    obtain ⟨n2, rfl⟩ : ∃ n : Nat, r4 = (n : Int) := ⟨r4.toNat, by omega⟩
    obtain ⟨y, hy, hyb⟩ : ∃ y : Int, [V.int 1, .int (1 + r3), .int 1000][n2]? = some (.int y) ∧ (1 ≤ y ∧ y ≤ 1000) := by
      have : n2 = 0 ∨ n2 = 1 ∨ n2 = 2 := by omega
      rcases this with rfl | rfl | rfl
      · exact ⟨1, rfl, by decide⟩
      · exact ⟨1 + r3, rfl, by omega, by omega⟩
      · exact ⟨1000, rfl, by decide⟩
    refine ⟨L2, _, n2, .int y, rfl, rfl, sq_of hL5, atI_nat hy, g_name ?_⟩
    dsimp only
    have fB := ((fA.trans f4).trans fL2).trans f5
    refine ⟨.int x, rfl, .int x, rfl, .int y, rfl, x, y, rfl, rfl, 1000, x + y, rfl, sz_of (by simp), fun p hp => ?_⟩
    have hp0 : H p = none := fr_back' fB hp
    refine q x _ p _ (fB.trans (Fr.new fB.bag hp)) hp0 (fB.bag.ne hp) upd_same hxb.1 hxb.2 ?_ ?_
    · split <;> omega
    · split <;> omega
end
end K19
namespace K19
open PySem L2 PyProof.Rows Tc Evl
/-- a dict whose keys are those of S -/
structure MI (ks : List Int) (kvs : List (Key × V)) (S : Int → Prop) : Prop where
  nd : (kvs.map (·.1)).Nodup
  inn : ∀ p ∈ kvs, ∃ k ∈ ks, p.1 = Sum.inl k
  has : ∀ k, (valV kvs (Sum.inl k)).isSome = true ↔ S k
theorem MI.nil {ks : List Int} : MI ks [] fun _ => False := ⟨List.nodup_nil, fun p m => (by cases m), fun k => ⟨fun h => (by cases h), fun h => False.elim h⟩⟩
theorem MI.put {ks : List Int} {kvs : List (Key × V)} {S : Int → Prop} {k : Int} {v : V} (h : MI ks kvs S) (hk : k ∈ ks) : MI ks (putK kvs (.inl k) v) (fun j => S j ∨ j = k) := by
  refine ⟨?_, fun p m => ?_, fun j => ?_⟩
  · cases e : valV kvs (.inl k) with
    | none => exact nd_putK _ h.nd e
    | some v => rw [putK_old (by rw [e]; rfl)]; exact h.nd
  · rcases mem_putK m with e | ⟨q, m, e⟩
    · exact ⟨k, hk, e⟩
    · obtain ⟨j, hj, e'⟩ := h.inn q m
      exact ⟨j, hj, e ▸ e'⟩
  · rw [valV_put]
    by_cases e : j = k
    · rw [if_pos (by rw [e])]
      exact ⟨fun _ => .inr e, fun _ => rfl⟩
    · rw [if_neg fun z => e (Sum.inl.inj z), h.has]
      exact ⟨.inl, fun z => z.elim id fun y => absurd y e⟩
theorem MI.len {ks : List Int} {kvs : List (Key × V)} {S : Int → Prop} (h : MI ks kvs S) : kvs.length ≤ ks.length := by
  have : (kvs.map (·.1)).length ≤ (ks.map (Sum.inl : Int → Key)).length := len_sub h.nd fun x m => by
    obtain ⟨p, hp, rfl⟩ := List.mem_map.mp m
    obtain ⟨k, hk, e⟩ := h.inn p hp
    exact List.mem_map.mpr ⟨k, hk, e.symm⟩
  rw [List.length_map, List.length_map] at this
  exact this
theorem MI.iff {ks : List Int} {kvs : List (Key × V)} {S S' : Int → Prop} (h : MI ks kvs S) (e : ∀ k, S k ↔ S' k) : MI ks kvs S' := ⟨h.nd, h.inn, fun k => (h.has k).trans (e k)⟩
theorem MI.mono {ks ls : List Int} {kvs : List (Key × V)} {S : Int → Prop} (h : MI ks kvs S) (m : ∀ k ∈ ks, k ∈ ls) : MI ls kvs S := ⟨h.nd, fun p mp => let ⟨k, hk, e⟩ := h.inn p mp; ⟨k, m k hk, e⟩, h.has⟩
abbrev allK : List Int := (List.range 1000).map Int.ofNat
theorem mem_allK {k : Int} (h : 0 ≤ k ∧ k < 1000) : k ∈ allK := List.mem_map.mpr ⟨k.toNat, List.mem_range.mpr (by omega), by show ((k.toNat : Nat) : Int) = k; omega⟩
section
variable {K : PySem.W.Frag} {H H' : Hp} {vs : List V} {fs : List (Int × Int)}
theorem rows_at_ref {v : V} {fs : List (Int × Int)} (h : Dp K H v (rowsD fs)) : ∃ p xs, v = .ref p ∧ SqT K H p xs ∧ DpAll K H xs (fs.map Tc.pairD) ∧ xs.length = fs.length := by
  cases h with
  | tup hs hA => exact ⟨_, _, rfl, hs, hA, by rw [dps_len hA, List.length_map]⟩
theorem pairs_nl {bs : List V} {e : Addr} (hb : H e = some (.lst bs)) (x : Bar e H H') (h : DpAll K H vs (fs.map Tc.pairD)) : DpAll K H' vs (fs.map Tc.pairD) := dps_each (fun d md v => dp_nl hb x 1 d v (by
  obtain ⟨r, _, rfl⟩ := List.mem_map.mp md
  rfl)) h
end
theorem keys_few {f : Int → Option Int} {js ks : List Int} (h : KeysOf f js) (hj : ∀ j ∈ js, j ∈ ks) : js.length ≤ ks.length := len_sub (h.1.imp fun {a b} z e => by omega) hj
theorem fRows_in {rws : List (Int × Int)} {k : Int} (h : (fRows rws k).isSome = true) : ∃ r ∈ rws, r.1 = k := by
  have g : ∀ (cs : List (Int × Option Int)) (f : Int → Option Int), (appl f cs k).isSome = true → (f k).isSome = true ∨ ∃ c ∈ cs, c.1 = k := by
    intro cs
    induction cs with
    | nil => exact fun f z => .inl z
    | cons c cs ih =>
      intro f z
      rcases ih _ z with z | ⟨c', m, e⟩
      · unfold fset at z
        by_cases e : k = c.1
        · exact .inr ⟨c, List.mem_cons_self, e.symm⟩
        · dsimp only at z
          rw [if_neg e] at z
          exact .inl z
      · exact .inr ⟨c', List.mem_cons_of_mem _ m, e⟩
  rcases g _ _ h with z | ⟨c, m, e⟩
  · cases z
  · obtain ⟨r, hr, rfl⟩ := List.mem_map.mp m
    exact ⟨r, hr, e⟩
end K19
namespace K19
open PySem L2 PyProof.Rows Tc Evl
theorem scLp : FnScope ["known", "stretch", "rows", "first", "last", "key", "worths", "new", "worth"] ["known", "stretch", "rows"] (defScope sLp) := ⟨rfl, rfl, rfl, by decide +kernel, rfl, by decide +kernel, by decide +kernel⟩
/-! what is known of keys: nothing, that it is not there, a worth -/
def optV : Option Int → V
  | none => .non
  | some z => .int z
abbrev Kn := Int → Option (Option Int)
def kset (f : Kn) (k : Int) (o : Option Int) : Kn := fun j => if j = k then some o else f j
/-- changes learnt -/
def learnCs (f : Kn) (cs : List (Int × Option Int)) : Kn := cs.foldl (fun f c => kset f c.1 c.2) f
theorem learnCs_app (f : Kn) (a b : List (Int × Option Int)) : learnCs f (a ++ b) = learnCs (learnCs f a) b := by
  unfold learnCs
  rw [List.foldl_append]
structure KD (kvs : List (Key × V)) (f : Kn) : Prop where
  nd : (kvs.map (·.1)).Nodup
  inn : ∀ p ∈ kvs, ∃ k : Int, (0 ≤ k ∧ k < 1000) ∧ p.1 = Sum.inl k
  val : ∀ k, valV kvs (Sum.inl k) = (f k).map optV
theorem KD.nil : KD [] fun _ => none := ⟨List.nodup_nil, fun p m => (by cases m), fun k => rfl⟩
theorem KD.put {kvs : List (Key × V)} {f : Kn} {k : Int} {o : Option Int} (h : KD kvs f) (hk : 0 ≤ k ∧ k < 1000) : KD (putK kvs (.inl k) (optV o)) (kset f k o) := by
  refine ⟨?_, fun p m => ?_, fun j => ?_⟩
  · cases e : valV kvs (.inl k) with
    | none => exact nd_putK _ h.nd e
    | some v => rw [putK_old (by rw [e]; rfl)]; exact h.nd
  · rcases mem_putK m with e | ⟨q, m, e⟩
    · exact ⟨k, hk, e⟩
    · obtain ⟨j, hj, e'⟩ := h.inn q m
      exact ⟨j, hj, e ▸ e'⟩
  · rw [valV_put, h.val]
    unfold kset
    by_cases e : j = k
    · rw [if_pos e, if_pos (by rw [e])]
      rfl
    · rw [if_neg e, if_neg fun z => e (Sum.inl.inj z)]
theorem KD.len {kvs : List (Key × V)} {f : Kn} (h : KD kvs f) : kvs.length ≤ 1000 := by
  have : (kvs.map (·.1)).length ≤ (((List.range 1000).map Int.ofNat).map (Sum.inl : Int → Key)).length := len_sub h.nd fun x m => by
    obtain ⟨p, hp, rfl⟩ := List.mem_map.mp m
    obtain ⟨k, hk, e⟩ := h.inn p hp
    exact List.mem_map.mpr ⟨k, List.mem_map.mpr ⟨k.toNat, List.mem_range.mpr (by omega), by show ((k.toNat : Nat) : Int) = k; omega⟩, e.symm⟩
  simpa using this
/-- a piece learnt -/
def learnP (f : Kn) (a b : Int) (rws : List (Int × Int)) : Kn := fun k => if a ≤ k ∧ k < b ∧ f k = none then some (fRows rws k) else f k
/-- the keys of a stretch that are not known, rising -/
def newKeys (f : Kn) (a b : Int) : List Int := ((List.range (b - a).toNat).filter fun (i : Nat) => (f (a + (i : Int))).isNone).map fun (i : Nat) => a + (i : Int)
theorem mem_new {f : Kn} {a b k : Int} : k ∈ newKeys f a b ↔ a ≤ k ∧ k < b ∧ f k = none := by
  unfold newKeys
  rw [List.mem_map]
  constructor
  · rintro ⟨i, hi, rfl⟩
    obtain ⟨h1, h2⟩ := List.mem_filter.mp hi
    have := List.mem_range.mp h1
    exact ⟨by omega, by omega, Option.isNone_iff_eq_none.mp h2⟩
  · rintro ⟨h1, h2, h3⟩
    refine ⟨(k - a).toNat, List.mem_filter.mpr ⟨List.mem_range.mpr (by omega), ?_⟩, by omega⟩
    rw [show a + (((k - a).toNat : Nat) : Int) = k by omega, h3]
    rfl
/-- the new keys learnt one by one -/
theorem learn_new (f : Kn) (a b : Int) (rws : List (Int × Int)) : (newKeys f a b).foldl (fun g k => kset g k (fRows rws k)) f = learnP f a b rws := by
  have h : ∀ (l : List Int) (g : Kn) (k : Int), l.foldl (fun g k => kset g k (fRows rws k)) g k = if k ∈ l then some (fRows rws k) else g k := by
    intro l
    induction l with
    | nil => exact fun g k => by rw [if_neg (by simp)]; rfl
    | cons x l ih =>
      intro g k
      rw [List.foldl_cons, ih]
      by_cases m : k ∈ l
      · rw [if_pos m, if_pos (List.mem_cons_of_mem _ m)]
      · rw [if_neg m]
        unfold kset
        by_cases e : k = x
        · subst e
          rw [if_pos rfl, if_pos List.mem_cons_self]
        · rw [if_neg e, if_neg fun z => (List.mem_cons.mp z).elim e m]
  funext k
  rw [h]
  unfold learnP
  by_cases c : k ∈ newKeys f a b
  · rw [if_pos c, if_pos (mem_new.mp c)]
  · rw [if_neg c, if_neg fun z => c (mem_new.mpr z)]
def spLp (K : PySem.W.Frag) : Sp := fun vs H Q _ => ∃ (D sp : Addr) (kvs : List (Key × V)) (f : Kn) (v : V) (rws : List (Int × Int)) (a b : Int), vs = [.ref D, .ref sp, v] ∧ H D = some (.dK kvs) ∧ KD kvs f ∧ SqT K H sp [.int a, .int b] ∧ 0 ≤ a ∧ a ≤ b ∧ b ≤ 1000 ∧ Dp K H v (rowsD rws) ∧ rws.length ≤ 5000 ∧
  ∀ p kvs' H', H p = none → Bar D H H' → H' p = some (.lst ((newKeys f a b).map V.int)) → H' D = some (.dK kvs') → KD kvs' (learnP f a b rws) → Q (.ref p) H'
theorem take_rows {α : Type} (rs : List α) {i : Nat} {r : α} (h : rs[i]? = some r) : rs.take (i + 1) = rs.take i ++ [r] := by
  rw [List.take_succ, h]
  rfl
theorem Bar.fresh {D p : Addr} {H H' : Hp} (b : Bar D H H') (hD : H' D ≠ none) (hp : H' p = none) : H p = none := by
  have ne : p ≠ D := fun z => hD (z ▸ hp)
  cases e : H p with
  | none => rfl
  | some o =>
    rw [b p o ne e] at hp
    cases hp
section
variable {P : Program} {w : World} {K : PySem.W.Frag} {mg : Str → Option Value} {base : Heap}
set_option maxHeartbeats 1000000 in
theorem ok_lp {f : Addr} {fd : FuncData} {k : Nat} (F : Fun K "learn_piece" "learn_piece" sLp f fd) (N : Names mg) : FnOk P w K mg base CX0 (k + 1) f fd ["known", "stretch", "rows"] (spLp K) := by
  refine F.ok scLp (fun vs H Q E h => ?_) (fun cdv A outer s H vs Q E hr h => ?_)
  · obtain ⟨D, sp, kvs, f, v, rws, a, b, rfl, _⟩ := h
    rfl
  · obtain ⟨D, sp, kvs, f, v, rws, a, b, rfl, hD, kd, hsp, a0, ab, b1, hv, rl, q⟩ := h
    refine ⟨_, (pss_cons (ps_asg (pv 1) (pg_tup rfl (pgs_cons (pg_name (i := 3) scLp.nd rfl (.inl rfl)) (pgs_cons (pg_name (i := 4) scLp.nd rfl (.inl rfl)) pgs_nil))))
      (pss_cons (ps_setDc (i := 6) (own := [("key", 5), ("worth", 8)]) (g := gTup K 2 (gCons (gName 5) (gCons (gName 8) gNil))) (tt := tYes) (tk := tVar 5) (tv := tVar 8) rfl scLp.nd rfl rfl (sw_trueD rfl rfl rfl (by decide +kernel)) (pi_tup (pv 2)) (blkOk_by (N := ["known", "stretch", "rows", "first", "last", "key", "worths", "new", "worth"]) (sc := defScope sLp) (by decide +kernel)) (fun _ _ _ _ _ => ⟨pg_tup rfl (pgs_cons (pg_name (i := 5) scLp.nd rfl (Or.inl rfl)) (pgs_cons (pg_name (i := 8) scLp.nd rfl (Or.inl rfl)) pgs_nil)), pts_nil, pv 5, pv 8⟩))
      (pss_cons (ps_setLc (i := 7) (own := [("key", 5)]) (g := gName 5) (tt := tTest (tDNotIn (tVar 5) (tVar 0))) (te := tVar 5) rfl scLp.nd rfl rfl (sw_true rfl rfl rfl (by decide +kernel)) (pi_range2 rfl N.range (pa_cons (pv 3) (pa_cons (pv 4) pa_nil))) (blkOk_by (N := ["known", "stretch", "rows", "first", "last", "key", "worths", "new", "worth"]) (sc := defScope sLp) (by decide +kernel)) (fun _ _ _ _ _ => pg_name (i := 5) scLp.nd rfl (Or.inl rfl)) (fun _ _ _ _ _ => pts_one (pt_cmp (pc_dnotin (hu_of hr) (pv 5) (pv 0)))) (fun _ _ _ _ _ => pv 5))
      (pss_cons (ps_for PassesOwn.never rfl (pi_list (pv 7)) (pg_name (i := 5) scLp.nd rfl (.inl rfl)) (pss_one (ps_dput (hu_of hr) (pv 0) (pv 5) (pe_dget1 (hu_of hr) (pv 6) (pv 5) ⟨rfl, rfl, rfl, rfl⟩) rfl)))
      (pss_one (ps_ret (pv 7))))))), ?_⟩
    refine s_seq ⟨.ref sp, rfl, sp, _, rfl, hsp, rfl, _, _, rfl, _, _, rfl, rfl, ?_⟩
    dsimp only
    obtain ⟨pr, xs, rfl, hp, hA, xl⟩ := rows_at_ref hv
    refine s_seq ⟨.ref pr, rfl, pr, rfl, ⟨xs, hp⟩, fun W hW => ?_⟩
    have x0 : Ex H (upd H W (.dK [])) := Ex.new hW
    refine dc_tup (K := K) (xs := xs) (fun i H' => ∃ kvw, Bar W (upd H W (.dK [])) H' ∧ H' W = some (.dK kvw) ∧ DI (rws.map (·.1)) kvw (fRows (rws.take i))) ⟨[], Bar.refl W _, upd_same, DI.nil⟩ (fun i H' _ h => ?_) (fun i x H' hx h => ?_) (fun H' h => ?_)
    · obtain ⟨kvw, bw, _, _⟩ := h
      exact bar_t (kvs := []) upd_same bw (Evl.ex_t x0 hp)
    · obtain ⟨kvw, bw, hW', di⟩ := h
      obtain ⟨d, hd, hxd⟩ := dps_at (dps_bar (kvs := []) upd_same bw _ _ (dps_same x0 _ _ hA)) hx
      rw [List.getElem?_map] at hd
      obtain ⟨r, hr', rfl⟩ := Option.map_eq_some_iff.mp hd
      obtain ⟨pa, u0, u1, rfl, ht, h0, h1⟩ := dpt2 hxd
      cases h0
      cases h1
      refine ⟨pa, _, rfl, ht, rfl, _, _, rfl, _, _, rfl, rfl, rfl, ?_⟩
      refine iteT (B := ∃ kvw, Bar W (upd H W (.dK [])) H' ∧ H' W = some (.dK kvw) ∧ DI (rws.map (·.1)) kvw (fRows (rws.take (i + 1)))) ⟨_, rfl, _, rfl, kvw, .inl r.1, rfl, hW', sz_lt (by have := di.len; rw [List.length_map] at this; omega), putK kvw (.inl r.1) (.int r.2), bw.put, upd_same, ?_⟩
      rw [take_rows rws hr']
      unfold fRows
      rw [List.map_append, appl_app]
      exact di.put (List.mem_map.mpr ⟨r, List.mem_of_getElem? hr', rfl⟩)
    · obtain ⟨kvw, bw, hW', di⟩ := h
      rw [xl, List.take_length] at di
      have xH : Ex H H' := bw.exOf x0 hW
      have WD : W ≠ D := fun z => by
        subst z
        rw [hD] at hW
        cases hW
      refine g_name ?_
      dsimp only
      have hD' := xH _ _ hD
      refine s_seq ⟨.int a, rfl, .int b, rfl, a, b, rfl, ⟨by omega, by omega, by omega, by omega⟩, fun Dl hDl => ?_⟩
      refine lc_range (lo := a) (n := (b - a).toNat) (Cw H' (fun i => (f (a + (i : Int))).isNone) (fun i => .int (a + (i : Int))) Dl) ⟨hDl, Ex.new hDl, upd_same⟩ (fun i G hi p => ⟨rfl, ?_⟩) (fun G p => g_name ?_)
      · refine cw_turn p (by omega) (fun G1 x1 Q' q' => ⟨.int (a + (i : Int)), rfl, .ref D, rfl, D, _, rfl, DGet.k (k := .inl (a + (i : Int))) (x1 _ _ hD'), _, rfl, ?_⟩) (fun _ => ev_var rfl)
        have e : (!(valV kvs (Sum.inl (a + (i : Int)))).isSome) = (f (a + (i : Int))).isNone := by
          rw [kd.val, Option.isSome_map]
          cases f (a + (i : Int)) <;> rfl
        rw [e]
        exact q' G1 (Ex.refl G1)
      · obtain ⟨_, xg, hDl'⟩ := p
        dsimp only
        have en : given (b - a).toNat (fun i => (f (a + (i : Int))).isNone) (fun i => V.int (a + (i : Int))) = (newKeys f a b).map V.int := by
          unfold given newKeys
          rw [List.map_map]
          rfl
        rw [en] at hDl'
        have Dl0 : H Dl = none := fresh_back xH hDl
        have DlD : Dl ≠ D := fun z => by
          subst z
          rw [hD] at Dl0
          cases Dl0
        have hDG := xg _ _ hD'
        have hWG := xg _ _ hW'
        refine s_seq (s_forL (K := K) (a := Dl) (xs := (newKeys f a b).map V.int) (ev_var rfl) (sq_of hDl') (fun j σ2 G2 => ∃ y5 kvs2, σ2 = [some (.ref D), some (.ref sp), some (.ref pr), some (.int a), some (.int b), y5, some (.ref W), some (.ref Dl), none] ∧ Bar D G G2 ∧ G2 D = some (.dK kvs2) ∧ KD kvs2 (((newKeys f a b).take j).foldl (fun g k => kset g k (fRows rws k)) f)) (fun G1 x1 => ⟨none, kvs, rfl, Bar.ex x1, x1 _ _ hDG, kd⟩) (fun j σ2 G2 _ ⟨_, _, _, b2, _⟩ => sq_of (b2 _ _ DlD hDl')) ?_ ?_)
        · rintro j x σ2 G2 hx ⟨y5, kvs2, rfl, b2, hD2, kd2⟩
          rw [List.getElem?_map] at hx
          obtain ⟨kk, hkk, rfl⟩ := Option.map_eq_some_iff.mp hx
          obtain ⟨k1, k2, k3⟩ := mem_new.mp (List.mem_of_getElem? hkk)
          refine g_name ?_
          dsimp only
          have hW2 : G2 W = some (.dK kvw) := b2 _ _ WD hWG
          refine ⟨.ref W, rfl, W, rfl, .inl ⟨kvw, .inl hW2⟩, .int kk, rfl, _, DGet.k (k := .inl kk) hW2, .ref D, rfl, .int kk, rfl, D, _, rfl, DPut.k (k := .inl kk) hD2 (sz_lt (by have := kd2.len; omega)), ?_⟩
          have ev : ((valV kvw (Sum.inl kk)).getD .non) = optV (fRows rws kk) := by
            rw [di.val]
            cases fRows rws kk <;> rfl
          rw [ev]
          refine ⟨_, _, rfl, b2.put, upd_same, ?_⟩
          rw [take_rows _ hkk, List.foldl_append]
          exact kd2.put ⟨by omega, by omega⟩
        · rintro σ2 G2 ⟨y5, kvs2, rfl, b2, hD2, kd2⟩
          rw [List.length_map, List.take_length, learn_new] at kd2
          exact ⟨.ref Dl, rfl, q Dl kvs2 G2 Dl0 ((Bar.ex (xH.trans xg)).trans b2) (b2 _ _ DlD hDl') hD2 kd2⟩
end
end K19
namespace K19
open PySem L2 PyProof.Rows Tc Evl
theorem scRi : FnScope ["rows", "key"] ["rows"] (defScope sRi) := ⟨rfl, rfl, rfl, by decide +kernel, rfl, by decide +kernel, by decide +kernel⟩
theorem scKr : FnScope ["known", "key"] ["known"] (defScope sKr) := ⟨rfl, rfl, rfl, by decide +kernel, rfl, by decide +kernel, by decide +kernel⟩
theorem scSo : FnScope ["keys", "stretches", "key"] ["keys"] (defScope sSo) := ⟨rfl, rfl, rfl, by decide +kernel, rfl, by decide +kernel, by decide +kernel⟩
theorem scSpans : FnScope ["keys", "found", "key"] ["keys"] (defScope sSpans) := ⟨rfl, rfl, rfl, by decide +kernel, rfl, by decide +kernel, by decide +kernel⟩
/-- the rows of a dict, by keys -/
def spRising (K : PySem.W.Frag) : Sp := fun vs H Q _ => ∃ (D : Addr) (ks : List Int) (kvs : List (Key × V)) (f : Int → Option Int), vs = [.ref D] ∧ H D = some (.dK kvs) ∧ DI ks kvs f ∧ ks.length ≤ 1000 ∧
  ∀ p js H', H p = none → Ex H H' → KeysOf f js → (∀ j ∈ js, j ∈ ks) → TP K H' p (rowsOf f js) → Q (.ref p) H'
/-- the fewest stretches of rising keys -/
def stp (acc : List (Int × Int)) (k : Int) : List (Int × Int) := match acc.getLast? with
  | some r => if r.2 = k then acc.dropLast ++ [(r.1, k + 1)] else acc ++ [(k, k + 1)]
  | none => acc ++ [(k, k + 1)]
def spansF (ks : List Int) : List (Int × Int) := ks.foldl stp []
def stpT (acc : List (Int × Int)) (k : Int) : Bool := match acc.getLast? with
  | some r => decide (r.2 = k)
  | none => false
theorem stp_len (acc : List (Int × Int)) (k : Int) : (stp acc k).length ≤ acc.length + 1 := by
  unfold stp
  split
  · split
    · simp only [List.length_append, List.length_dropLast, List.length_cons, List.length_nil]
      omega
    · simp only [List.length_append, List.length_cons, List.length_nil]
      omega
  · simp only [List.length_append, List.length_cons, List.length_nil]
    omega
theorem neg1_at {α : Type} (init : List α) (z : α) : ixN (init ++ [z]).length (-1) = some init.length := by
  rw [show (init ++ [z]).length = init.length + 1 by simp]
  unfold ixN
  rw [if_neg (by decide), if_pos (by omega)]
  congr 1
  omega
theorem atI_last (init : List V) (z : V) : atI (init ++ [z]) (-1) = some z := by
  unfold atI
  rw [neg1_at]
  show (init ++ [z])[init.length]? = some z
  rw [List.getElem?_append_right (Nat.le_refl _), Nat.sub_self]
  rfl
theorem dps_split {K : PySem.W.Frag} {H : Hp} {vs : List V} {ds : List PyData} {d : PyData} (h : DpAll K H vs (ds ++ [d])) : ∃ us u, vs = us ++ [u] ∧ DpAll K H us ds ∧ Dp K H u d := by
  have hl := dps_len h
  rcases List.eq_nil_or_concat vs with e | ⟨us, u, e⟩
  · subst e
    rw [List.length_append] at hl
    simp at hl
  · rw [List.concat_eq_append] at e
    subst e
    rw [List.length_append, List.length_append] at hl
    have hl' : us.length = ds.length := by simp at hl; exact hl
    have h1 := dps_take us.length h
    have h2 := dps_drop us.length h
    rw [List.take_left' rfl, hl', List.take_left' rfl] at h1
    rw [List.drop_left' rfl, hl', List.drop_left' rfl] at h2
    cases h2 with
    | cons a t => exact ⟨us, u, rfl, h1, a⟩
section
variable {K : PySem.W.Frag}
/-- one more key -/
theorem sp_turn {tt : TT} {D : Ends} {x0 : Option V} {L : Addr} {k : Int} {H : Hp} {vs : List V} {acc : List (Int × Int)} (hL : H L = some (.lst vs)) (dA : DpAll K H vs (acc.map Tc.pairD)) (few : acc.length ≤ 5000)
    (ht : EvT tt [x0, some (.ref L), some (.int k)] H (stpT acc k)) (q : ∀ vs2 H2, Bar L H H2 → H2 L = some (.lst vs2) → DpAll K H2 vs2 ((stp acc k).map Tc.pairD) → D.nx [x0, some (.ref L), some (.int k)] H2) :
    tIfS tt (tAsg (tTup (tCons (tOp (rIxT K) (tOp (rIxL K) (tVar 1) (tUn (rU fun i => .int (-i)) (tC (.int 1)))) (tC (.int 0))) (tCons (tOp (rI0 fun i j => .int (i + j)) (tVar 2) (tC (.int 1))) tNil))) (gSub (tVar 1) (tUn (rU fun i => .int (-i)) (tC (.int 1))) rSetL)) (tDrop (tBM K "list" rAppend (tVar 1) (tCons (tTup (tCons (tVar 2) (tCons (tOp (rI0 fun i j => .int (i + j)) (tVar 2) (tC (.int 1))) tNil))) tNil))) D [x0, some (.ref L), some (.int k)] H := by
  have vl : vs.length = acc.length := by rw [dps_len dA, List.length_map]
  refine s_if ht (fun c H1 x1 => ?_) (fun c H1 x1 => ?_)
  · unfold stpT at c
    rcases List.eq_nil_or_concat acc with e | ⟨init, r, e⟩
    · subst e
      cases c
    · rw [List.concat_eq_append] at e
      subst e
      have gl : (init ++ [r]).getLast? = some r := by simp
      rw [gl] at c
      have c1 : r.2 = k := of_decide_eq_true c
      rw [List.map_append] at dA
      obtain ⟨us, u, rfl, d1, d2⟩ := dps_split dA
      obtain ⟨t, u0, u1, rfl, ht', h0, h1⟩ := dpt2 d2
      cases h0
      cases h1
      have es : stp (init ++ [r]) k = init ++ [(r.1, k + 1)] := by
        unfold stp
        rw [gl]
        show (if r.2 = k then _ else _) = _
        rw [if_pos c1, List.dropLast_concat]
      rw [es] at q
      refine (ev_ix0 (ev_op (ev_var rfl) (ev_un ev_c ru_neg) (rv_ixL (sq_of (x1 _ _ hL)) (atI_last us _))) (Evl.ex_t x1 ht')) H1 (Ex.refl H1) _ fun H2 x2 => ⟨.int k, rfl, k, 1, rfl, rfl, sz_of (by simp), fun p hp => ⟨.ref L, rfl, 1, rfl, L, _, -1, us.length, rfl, rfl, Ex.new hp _ _ (x2 _ _ (x1 _ _ hL)), neg1_at us _, ?_⟩⟩
      have xp : Ex H2 (upd H2 p (.tup [.int r.1, .int (k + 1)])) := Ex.new hp
      have hp' : (upd H2 p (.tup [.int r.1, .int (k + 1)])) p = some (.tup [.int r.1, .int (k + 1)]) := upd_same
      generalize hG : upd H2 p (.tup [.int r.1, .int (k + 1)]) = G at xp hp'
      have x1G := (x1.trans x2).trans xp
      have sl : (us ++ [V.ref t]).set us.length (.ref p) = us ++ [.ref p] := by
        rw [List.set_append_right _ _ (Nat.le_refl _), Nat.sub_self]
        rfl
      rw [sl]
      have bL : Bar L G (upd G L (.lst (us ++ [.ref p]))) := (Bar.refl L G).put
      refine q _ _ ((Bar.ex x1G).trans bL) upd_same ?_
      rw [List.map_append]
      exact dps_app (pairs_nl (x1G _ _ hL) bL (dps_same x1G _ _ d1)) (.cons (dp_nl (x1G _ _ hL) bL 1 _ _ rfl (.tup (st_of hp') (.cons (.int _) (.cons (.int _) .nil)))) .nil)
  · have es : stp acc k = acc ++ [(k, k + 1)] := by
      unfold stp
      unfold stpT at c
      split
      · rename_i r e
        rw [e] at c
        rw [if_neg (of_decide_eq_false c)]
      · rfl
    rw [es] at q
    refine ⟨.ref L, rfl, .inl ⟨rfl, vs, sq_of (x1 _ _ hL)⟩, .int k, rfl, .int k, rfl, k, 1, rfl, rfl, sz_of (by simp), fun p hp => ⟨L, vs, .ref p, rfl, rfl, Ex.new hp _ _ (x1 _ _ hL), sz_lt (by omega), ?_⟩⟩
    have xp : Ex H1 (upd H1 p (.tup [.int k, .int (k + 1)])) := Ex.new hp
    have hp' : (upd H1 p (.tup [.int k, .int (k + 1)])) p = some (.tup [.int k, .int (k + 1)]) := upd_same
    generalize hG : upd H1 p (.tup [.int k, .int (k + 1)]) = G at xp hp'
    have x1G := x1.trans xp
    have bL : Bar L G (upd G L (.lst (vs ++ [.ref p]))) := (Bar.refl L G).put
    refine q _ _ ((Bar.ex x1G).trans bL) upd_same ?_
    rw [List.map_append]
    exact dps_app (pairs_nl (x1G _ _ hL) bL (dps_same x1G _ _ dA)) (.cons (dp_nl (x1G _ _ hL) bL 1 _ _ rfl (.tup (st_of hp') (.cons (.int _) (.cons (.int _) .nil)))) .nil)
/-- the second half of the test -/
theorem sp_test {t1 : TT} {x0 : Option V} {L : Addr} {k : Int} {H : Hp} {vs : List V} {acc : List (Int × Int)} (hL : H L = some (.lst vs)) (dA : DpAll K H vs (acc.map Tc.pairD)) (h1 : EvT t1 [x0, some (.ref L), some (.int k)] H (!vs.isEmpty)) :
    EvT (tAnd t1 (tTest (tOp rEq (tOp (rIxT K) (tOp (rIxL K) (tVar 1) (tUn (rU fun i => .int (-i)) (tC (.int 1)))) (tC (.int 1))) (tVar 2)))) [x0, some (.ref L), some (.int k)] H (stpT acc k) := by
  have vl : vs.length = acc.length := by rw [dps_len dA, List.length_map]
  rcases List.eq_nil_or_concat acc with e | ⟨init, r, e⟩
  · subst e
    have ev : vs = [] := List.eq_nil_of_length_eq_zero vl
    subst ev
    exact et_is (et_and (b := false) h1 fun z => by cases z) rfl
  · rw [List.concat_eq_append] at e
    subst e
    rw [List.map_append] at dA
    obtain ⟨us, u, rfl, d1, d2⟩ := dps_split dA
    obtain ⟨t, u0, u1, rfl, ht', h0, h1'⟩ := dpt2 d2
    cases h0
    cases h1'
    have gl : (init ++ [r]).getLast? = some r := by simp
    refine et_is (et_and h1 fun _ => et_test (ev_op (ev_ix1 (ev_op (ev_var rfl) (ev_un ev_c ru_neg) (rv_ixL (sq_of hL) (atI_last us _))) ht') (ev_var rfl) (rv_eq rfl))) ?_
    unfold stpT
    rw [gl]
    have e1 : (!(us ++ [V.ref t]).isEmpty) = true := by simp
    rw [e1, Bool.true_and]
    exact decide_eq_decide.mpr ⟨fun z => V.int.inj z, fun z => congrArg V.int z⟩
end
def spSo (K : PySem.W.Frag) : Sp := fun vs H Q _ => ∃ (l : Addr) (ks : List Int), vs = [.ref l] ∧ H l = some (.lst (ks.map V.int)) ∧ ks.length ≤ 1000 ∧ ∀ p H', H p = none → Ex H H' → TP K H' p (spansF ks) → Q (.ref p) H'
def spSpans (K : PySem.W.Frag) : Sp := fun vs H Q _ => ∃ (d : Addr) (kvs : List (Key × V)) (ks : List Int), vs = [.ref d] ∧ H d = some (.dK kvs) ∧ kvs.map (·.1) = ks.map Sum.inl ∧ ks.length ≤ 1000 ∧ ∀ p ms H', H p = none → Ex H H' → ms.Perm ks → ms.Pairwise (· ≤ ·) → TP K H' p (spansF ms) → Q (.ref p) H'
theorem spans_take (ks : List Int) {j : Nat} {k : Int} (h : ks[j]? = some k) : (ks.take (j + 1)).foldl stp [] = stp ((ks.take j).foldl stp []) k := by
  rw [take_rows ks h, List.foldl_append]
  rfl
theorem spans_few : ∀ (ks : List Int) (acc : List (Int × Int)), (ks.foldl stp acc).length ≤ acc.length + ks.length
  | [], _ => Nat.le_refl _
  | k :: ks, acc => by
    rw [List.foldl_cons]
    rw [List.length_cons]
    have h1 := spans_few ks (stp acc k)
    have h2 := stp_len acc k
    omega
section
variable {P : Program} {w : World} {K : PySem.W.Frag} {mg : Str → Option Value} {base : Heap}
theorem ok_rising {f : Addr} {fd : FuncData} {k : Nat} (F : Fun K "rising" "rising" sRi f fd) (N : Names mg) : FnOk P w K mg base CX0 (k + 1) f fd ["rows"] (spRising K) := by
  refine F.ok scRi (fun vs H Q E h => ?_) (fun cdv A outer s H vs Q E hr h => ?_)
  · obtain ⟨D, ks, kvs, f, rfl, _⟩ := h
    rfl
  · obtain ⟨D, ks, kvs, f, rfl, hD2, di, h64, q⟩ := h
    refine ⟨_, pss_one (ps_ret (pe_callTy cr_tupP (by rfl) N.tuple boot_tuple (pa_cons (pe_lc (own := [("key", 1)]) (g := gName 1) (tt := tYes) (te := tTup (tCons (tVar 1) (tCons (tDGet (tVar 0) (tVar 1)) tNil))) rfl scRi.nd (pi_list (pe_callB (cr_sortedDA rfl) (by rfl) N.sorted boot_sorted (pa_cons (pv 0) pa_nil))) (blkOk_by (N := ["rows", "key"]) (sc := defScope sRi) (by decide +kernel)) (fun _ _ _ _ _ => pg_name (i := 1) scRi.nd rfl (Or.inl rfl)) (fun _ _ _ _ _ => pts_nil) (fun _ _ _ _ _ => (pe_tup (pa_cons (pv 1) (pa_cons (pe_dget (hu_of hr) (pv 0) (pv 1) (fun _ _ => rfl)) pa_nil))))) pa_nil))), ?_⟩
    obtain ⟨js0, hks, nd, mem, hlen⟩ := di.keys
    refine ⟨.ref D, rfl, D, kvs, js0, rfl, .inl hD2, hks, fun ys p pm pw hp => ⟨p, rfl, ⟨_, sq_of upd_same⟩, fun D2 hD3 => ?_⟩⟩
    have ndy : ys.Nodup := pm.nodup_iff.mpr nd
    have kf : KeysOf f ys := ⟨lt_of_le_nodup pw ndy, fun k => (pm.mem_iff).trans (mem k)⟩
    have x3 : Ex H (upd H p (.lst (ys.map V.int))) := Ex.new hp
    generalize hH3 : upd H p (.lst (ys.map V.int)) = H3 at x3 hD3
    have hp3 : H3 p = some (.lst (ys.map V.int)) := by rw [← hH3]; exact upd_same
    refine lc_list (K := K) (a := p) (xs := ys.map V.int) (fun i H' => ∃ vs, Ex H3 H' ∧ H' D2 = some (.lst vs) ∧ vs.length = i ∧ DpAll K (hid D2 H') vs ((rowsOf f (ys.take i)).map Tc.pairD)) ⟨[], Ex.new hD3, upd_same, rfl, .nil⟩ (fun i H' _ h => ?_) (fun i x H' hx h => ⟨rfl, ?_⟩) (fun H' h => ?_)
    · obtain ⟨vs, x4, _⟩ := h
      exact sq_of (x4 p _ hp3)
    · obtain ⟨vs, x4, h4, hvl, hv⟩ := h
      rw [List.getElem?_map] at hx
      obtain ⟨kk, hkk, rfl⟩ := Option.map_eq_some_iff.mp hx
      have hm := (kf.2 kk).mp (List.mem_of_getElem? hkk)
      obtain ⟨ww, hww⟩ := Option.isSome_iff_exists.mp hm
      have hval : valV kvs (.inl kk) = some (.int ww) := by rw [di.val, hww]; rfl
      have hi : i < ys.length := (List.getElem?_eq_some_iff.mp hkk).1
      have hyl : ys.length = js0.length := pm.length_eq
      refine iteT (B := ∃ vs, Ex H3 H' ∧ H' D2 = some (.lst vs) ∧ vs.length = i + 1 ∧ DpAll K (hid D2 H') vs ((rowsOf f (ys.take (i + 1))).map Tc.pairD)) ?_
      refine ⟨.int kk, rfl, .ref D, rfl, .int kk, rfl, D, .int ww, rfl, by rw [← hval]; exact DGet.k (k := .inl kk) (x4 D _ (x3 D _ hD2)), sz_of (by simp), fun t ht => ?_⟩
      have htD : t ≠ D2 := fun z => by
        subst z
        rw [h4] at ht
        cases ht
      have x5 : Ex H' (upd H' t (.tup [.int kk, .int ww])) := Ex.new ht
      refine ⟨vs, x5 D2 _ h4, sz_lt (by omega), vs ++ [.ref t], (x4.trans x5).mut hD3, upd_same, by simp [hvl], ?_⟩
      rw [hid_upd, List.take_succ, hkk]
      unfold rowsOf
      rw [List.map_append, List.map_append]
      refine dps_app (dps_same (ex_hid x5) _ _ hv) (.cons ?_ .nil)
      show Dp K _ (.ref t) (.tuple [.int kk, .int ((f kk).getD 0)])
      rw [hww]
      exact .tup (st_of (hid_at upd_same htD)) (.cons (.int kk) (.cons (.int ww) .nil))
    · obtain ⟨vs, x4, h4, _, hv⟩ := h
      rw [List.length_map, List.take_length] at hv
      refine ⟨D2, vs, rfl, sq_of h4, fun t o ht od => ?_⟩
      have xA : Ex H (upd H' t (.frz o (.tup vs))) := (x3.trans x4).trans (Ex.new ht)
      have tn : H t = none := by
        cases e : H t with
        | none => rfl
        | some u =>
          have := ((x3.trans x4) t u e).symm.trans ht
          cases this
      refine q t ys _ tn xA kf (fun j m => ?_) ⟨vs, ⟨o, upd_same, od⟩, dps_same (Ex.new ht) _ _ (dps_same (hid_same D2 H') _ _ hv)⟩
      have := (kf.2 j).mp m
      rw [← (mem j)] at this
      have h2 : (Sum.inl j : Key) ∈ kvs.map (·.1) := hks ▸ List.mem_map.mpr ⟨j, this, rfl⟩
      obtain ⟨pp, hp1, hp2⟩ := List.mem_map.mp h2
      obtain ⟨kk, hk1, hk2⟩ := di.inn pp hp1
      cases (hp2.symm.trans hk2 : (Sum.inl j : Key) = Sum.inl kk)
      exact hk1
theorem ok_so {f : Addr} {fd : FuncData} {k : Nat} (F : Fun K "stretches_of" "stretches_of" sSo f fd) (N : Names mg) : FnOk P w K mg base CX0 (k + 1) f fd ["keys"] (spSo K) := by
  refine F.ok scSo (fun vs H Q E h => ?_) (fun cdv A outer s H vs Q E hr h => ?_)
  · obtain ⟨l, ks, rfl, _⟩ := h
    rfl
  · obtain ⟨l, ks, rfl, hl, kl, q⟩ := h
    refine ⟨_, (pss_cons (ps_set (i := 1) scSo.nd rfl (.inl rfl) (pe_lst pa_nil))
      (pss_cons (ps_for PassesOwn.never rfl (pi_list (pv 0)) (pg_name (i := 2) scSo.nd rfl (.inl rfl)) (pss_one (ps_if (PW.pt (pw_and (pt_truth (pv 1) (fun _ => rfl)) (pw_and1 (pt_cmpR op_eq (pe_ix ix_tup (pe_ix ix_list (pv 1) (pe_un un_neg pe_int) (fun _ _ => rfl)) pe_int (fun _ _ => rfl)) (pv 2) (nomark _))))) (pss_one (ps_asg (pe_tup (pa_cons (pe_ix ix_tup (pe_ix ix_list (pv 1) (pe_un un_neg pe_int) (fun _ _ => rfl)) pe_int (fun _ _ => rfl)) (pa_cons (pe_op op_add (pv 2) pe_int) pa_nil))) (pg_sub (pv 1) (pe_un un_neg pe_int) set_list))) (pss_one (ps_expr (pe_bm PySem.F.plainAttrs_list PySem.F.slot_list_append PySem.F.type_list_append mt_append (pv 1) (pa_cons (pe_tup (pa_cons (pv 2) (pa_cons (pe_op op_add (pv 2) pe_int) pa_nil))) pa_nil)))))))
      (pss_one (ps_ret (pe_callTy cr_tupP (by rfl) N.tuple boot_tuple (pa_cons (pv 1) pa_nil)))))), ?_⟩
    refine s_seq ⟨Nat.zero_le _, fun L hL => g_name ?_⟩
    dsimp only
    have x1 : Ex H (upd H L (.lst [])) := Ex.new hL
    have h1 : (upd H L (.lst [])) L = some (.lst []) := upd_same
    generalize hH1 : upd H L (.lst []) = H1 at x1 h1
    have lL : l ≠ L := fun z => by
      subst z
      rw [hl] at hL
      cases hL
    refine s_seq (s_forL (K := K) (a := l) (xs := ks.map V.int) (ev_var rfl) (sq_of (x1 _ _ hl)) (fun j σ2 G => ∃ y2 vs, σ2 = [some (.ref l), some (.ref L), y2] ∧ Bar L H1 G ∧ G L = some (.lst vs) ∧ DpAll K G vs (((ks.take j).foldl stp []).map Tc.pairD)) (fun G xg => ⟨none, [], rfl, Bar.ex xg, xg _ _ h1, .nil⟩) (fun j σ2 G _ ⟨_, _, _, b, _⟩ => sq_of (b _ _ lL (x1 _ _ hl))) ?_ ?_)
    · rintro j x σ2 G hx ⟨y2, vs, rfl, b, hLG, dA⟩
      rw [List.getElem?_map] at hx
      obtain ⟨kk, hkk, rfl⟩ := Option.map_eq_some_iff.mp hx
      have few := spans_few (ks.take j) []
      rw [List.length_take] at few
      simp only [List.length_nil] at few
      refine g_name ?_
      dsimp only
      refine sp_turn (K := K) hLG dA (by omega) (sp_test hLG dA fun G1 x1' Q' q' => ⟨.ref L, rfl, _, .inl ⟨vs, sq_of (x1' _ _ hLG), rfl⟩, q' G1 (Ex.refl G1)⟩) fun vs2 G2 b2 hL2 dA2 => ?_
      rw [← spans_take ks hkk] at dA2
      exact ⟨_, vs2, rfl, b.trans b2, hL2, dA2⟩
    · rintro σ2 G ⟨y2, vs, rfl, b, hLG, dA⟩
      rw [List.length_map, List.take_length] at dA
      have xG : Ex H G := b.exOf x1 hL
      exact ⟨.ref L, rfl, L, vs, rfl, sq_of hLG, fun t o ht od => q t _ (fresh_back xG ht) (xG.trans (Ex.new ht)) ⟨vs, ⟨o, upd_same, od⟩, dps_same (Ex.new ht) _ _ dA⟩⟩
theorem ok_spans {f : Addr} {fd : FuncData} {k : Nat} (F : Fun K "_law_spans" "_law_spans" sSpans f fd) (N : Names mg) : FnOk P w K mg base CX0 (k + 1) f fd ["keys"] (spSpans K) := by
  refine F.ok scSpans (fun vs H Q E h => ?_) (fun cdv A outer s H vs Q E hr h => ?_)
  · obtain ⟨d, kvs, ks, rfl, _⟩ := h
    rfl
  · obtain ⟨d, kvs, ks0, rfl, hd, hks, kl, q⟩ := h
    refine ⟨_, (pss_cons (ps_set (i := 1) scSpans.nd rfl (.inl rfl) (pe_lst pa_nil))
      (pss_cons (ps_for PassesOwn.never rfl (pi_list (pe_callB (cr_sortedDA rfl) (by rfl) N.sorted boot_sorted (pa_cons (pv 0) pa_nil))) (pg_name (i := 2) scSpans.nd rfl (.inl rfl)) (pss_one (ps_if (PW.pt (pw_and (pt_cmpR (op_neE hr.units) (pv 1) (pe_lst pa_nil) (nomark _)) (pw_and1 (pt_cmpR op_eq (pe_ix ix_tup (pe_ix ix_list (pv 1) (pe_un un_neg pe_int) (fun _ _ => rfl)) pe_int (fun _ _ => rfl)) (pv 2) (nomark _))))) (pss_one (ps_asg (pe_tup (pa_cons (pe_ix ix_tup (pe_ix ix_list (pv 1) (pe_un un_neg pe_int) (fun _ _ => rfl)) pe_int (fun _ _ => rfl)) (pa_cons (pe_op op_add (pv 2) pe_int) pa_nil))) (pg_sub (pv 1) (pe_un un_neg pe_int) set_list))) (pss_one (ps_expr (pe_bm PySem.F.plainAttrs_list PySem.F.slot_list_append PySem.F.type_list_append mt_append (pv 1) (pa_cons (pe_tup (pa_cons (pv 2) (pa_cons (pe_op op_add (pv 2) pe_int) pa_nil))) pa_nil)))))))
      (pss_one (ps_ret (pe_callTy cr_tupP (by rfl) N.tuple boot_tuple (pa_cons (pv 1) pa_nil)))))), ?_⟩
    refine s_seq ⟨Nat.zero_le _, fun L hL => g_name ?_⟩
    dsimp only
    have x0 : Ex H (upd H L (.lst [])) := Ex.new hL
    have h0 : (upd H L (.lst [])) L = some (.lst []) := upd_same
    generalize hH0 : upd H L (.lst []) = H0 at x0 h0
    refine s_seq ⟨.ref d, rfl, d, kvs, ks0, rfl, .inl (x0 _ _ hd), hks, fun ks l pm pw hl' => ⟨l, rfl, ⟨_, sq_of upd_same⟩, ?_⟩⟩
    have xl : Ex H0 (upd H0 l (.lst (ks.map V.int))) := Ex.new hl'
    have hl : (upd H0 l (.lst (ks.map V.int))) l = some (.lst (ks.map V.int)) := upd_same
    generalize hH1 : upd H0 l (.lst (ks.map V.int)) = H1 at xl hl
    have h1 := xl _ _ h0
    have x1 := x0.trans xl
    have kl2 : ks.length ≤ 1000 := by rw [pm.length_eq]; exact kl
    have lL : l ≠ L := fun z => by
      subst z
      rw [h0] at hl'
      cases hl'
    refine for_list (K := K) (a := l) (xs := ks.map V.int) (fun j σ2 G => ∃ y2 vs, σ2 = [some (.ref d), some (.ref L), y2] ∧ Bar L H1 G ∧ G L = some (.lst vs) ∧ DpAll K G vs (((ks.take j).foldl stp []).map Tc.pairD)) ⟨none, [], rfl, Bar.refl L H1, h1, .nil⟩ (fun j σ2 G _ ⟨_, _, _, b, _⟩ => sq_of (b _ _ lL hl)) ?_ ?_
    · rintro j x σ2 G hx ⟨y2, vs, rfl, b, hLG, dA⟩
      rw [List.getElem?_map] at hx
      obtain ⟨kk, hkk, rfl⟩ := Option.map_eq_some_iff.mp hx
      have few := spans_few (ks.take j) []
      rw [List.length_take] at few
      simp only [List.length_nil] at few
      refine g_name ?_
      dsimp only
      refine sp_turn (K := K) hLG dA (by omega) (sp_test hLG dA (et_test (ev_opL (ev_var rfl) (el_lst ea_nil (by simp)) fun p G1 hp e G2 e2 Q' q' => ⟨L, p, vs, rfl, rfl, sq_of (e2 _ _ (e _ _ hLG)), sq_of (e2 _ _ hp), q' G2 (Ex.refl G2)⟩))) fun vs2 G2 b2 hL2 dA2 => ?_
      rw [← spans_take ks hkk] at dA2
      exact ⟨_, vs2, rfl, b.trans b2, hL2, dA2⟩
    · rintro σ2 G ⟨y2, vs, rfl, b, hLG, dA⟩
      rw [List.length_map, List.take_length] at dA
      have xG : Ex H G := b.exOf x1 hL
      exact ⟨.ref L, rfl, L, vs, rfl, sq_of hLG, fun t o ht od => q t ks _ (fresh_back xG ht) (xG.trans (Ex.new ht)) pm pw ⟨vs, ⟨o, upd_same, od⟩, dps_same (Ex.new ht) _ _ dA⟩⟩
end
end K19
namespace K19
open PySem L2 PyProof.Rows Tc Evl
/-- a dict's comprehension over the keys of a locked dict -/
theorem dc_keys {d : Addr} {o : Obj} {kvs : List (Key × V)} {g : TG} {tt : TT} {tk tv : TE} {own : List Nat} {σ : L2.St} {H1 : Hp} {D : Addr} {Fin : Hp → Prop} (Pv : Nat → Hp → Prop) (h0 : Pv 0 (upd H1 D (.dK []))) (hl : ∀ j G, j ≤ kvs.length → Pv j G → G d = some (.frz o (.dK kvs)))
    (hs : ∀ j k v G, kvs[j]? = some (k, v) → Pv j G → g (kV k) (wipe σ own) G fun τ G2 => wipe τ own = wipe σ own ∧ tt τ G2 fun c G3 => if c = true then (tk τ G3 fun y G4 => tv τ G4 fun z G5 => ∃ acc key, y = kV key ∧ G5 D = some (.dK acc) ∧ acc.length < sizeLine ∧ Pv (j + 1) (upd G5 D (.dK (putK acc key z)))) else Pv (j + 1) G3) (hd : ∀ G, Pv kvs.length G → Fin G) :
    ∃ R : Nat → Nat → Hp → Prop, (∃ n, R 0 n (upd H1 D (.dK []))) ∧ ∀ j n G, R j n G → ((Itk d o kvs).stop j G ∧ Fin G) ∨ ((Itk d o kvs).go j G ∧ ∃ On : Hp → Prop, (∀ G', On G' → ∃ n', n' < n ∧ R (j + 1) n' G') ∧
      ∀ x G', (Itk d o kvs).yld j G x G' → g x (wipe σ own) G' fun τ G2 => wipe τ own = wipe σ own ∧ tt τ G2 fun c G3 => if c = true then (tk τ G3 fun y G4 => tv τ G4 fun z G5 => ∃ acc key, y = kV key ∧ G5 D = some (.dK acc) ∧ acc.length < sizeLine ∧ On (upd G5 D (.dK (putK acc key z)))) else On G3) := by
  refine ⟨fun j n G => j ≤ kvs.length ∧ n = kvs.length - j ∧ Pv j G, ⟨_, Nat.zero_le _, rfl, h0⟩, ?_⟩
  intro j n G ⟨hj, en, p⟩
  have at1 := hl j G hj p
  rcases Nat.lt_or_ge j kvs.length with lt | ge
  · refine .inr ⟨⟨at1, lt⟩, Pv (j + 1), fun G' p' => ⟨kvs.length - (j + 1), by omega, by omega, rfl, p'⟩, ?_⟩
    rintro x G' ⟨rfl, k, v, e, rfl⟩
    exact hs j k v _ e p
  · have e : j = kvs.length := Nat.le_antisymm hj ge
    subst e
    exact .inl ⟨⟨at1, Nat.le_refl _⟩, hd G p⟩
def spKr (K : PySem.W.Frag) : Sp := fun vs H Q _ => ∃ (D : Addr) (ks : List Int) (kvs : List (Key × V)) (f : Kn), vs = [.ref D] ∧ H D = some (.dK kvs) ∧ KD kvs f ∧ (∀ k, ((f k).join).isSome = true → k ∈ ks) ∧ ks.length ≤ 1000 ∧
  ∀ p js H', H p = none → Ex H H' → KeysOf (fun k => (f k).join) js → (∀ j ∈ js, j ∈ ks) → TP K H' p (rowsOf (fun k => (f k).join) js) → Q (.ref p) H'
theorem val_at {kvs : List (Key × V)} (nd : (kvs.map (·.1)).Nodup) {i : Nat} {k : Key} {v : V} (h : kvs[i]? = some (k, v)) : valV kvs k = some v := by
  revert i
  induction kvs with
  | nil => intro i h; cases h
  | cons p kvs ih =>
    intro i h
    rw [List.map_cons] at nd
    replace nd := List.nodup_cons.mp nd
    cases i with
    | zero =>
      cases h
      exact valV_pos rfl
    | succ i =>
      rw [List.getElem?_cons_succ] at h
      have hm : k ∈ kvs.map (·.1) := List.mem_map.mpr ⟨_, List.mem_of_getElem? h, rfl⟩
      rw [valV_neg fun z => nd.1 (z ▸ hm)]
      exact ih nd.2 h
open Classical in
/-- what a comprehension has seen of the keys -/
noncomputable def seenF (f : Kn) (kvs : List (Key × V)) (i : Nat) : Int → Option Int := fun k => if (Sum.inl k : Key) ∈ (kvs.take i).map Prod.fst then (f k).join else none
theorem seen_zero (f : Kn) (kvs : List (Key × V)) : (fun _ => none) = seenF f kvs 0 := by
  funext k
  unfold seenF
  rw [if_neg (by simp)]
theorem seen_step {f : Kn} {kvs : List (Key × V)} {i : Nat} {kk : Int} {v : V} (h : kvs[i]? = some (Sum.inl kk, v)) : seenF f kvs (i + 1) = fset (seenF f kvs i) kk (f kk).join := by
  funext k
  unfold seenF fset
  rw [take_rows kvs h, List.map_append]
  by_cases e : k = kk
  · subst e
    rw [if_pos rfl, if_pos (List.mem_append_right _ (show (Sum.inl k : Key) ∈ [(Sum.inl k, v)].map Prod.fst from List.mem_cons_self))]
  · rw [if_neg e]
    dsimp only
    have : ((Sum.inl k : Key) ∈ (kvs.take i).map Prod.fst ++ [(Sum.inl kk, v)].map Prod.fst) ↔ (Sum.inl k : Key) ∈ (kvs.take i).map Prod.fst := by
      rw [List.mem_append]
      exact ⟨fun z => z.elim id fun z => absurd (Sum.inl.inj (List.mem_singleton.mp z)) e, .inl⟩
    by_cases m : (Sum.inl k : Key) ∈ (kvs.take i).map Prod.fst
    · rw [if_pos m, if_pos (this.mpr m)]
    · rw [if_neg m, if_neg fun z => m (this.mp z)]
section
variable {P : Program} {w : World} {K : PySem.W.Frag} {mg : Str → Option Value} {base : Heap}
theorem ok_kr {f : Addr} {fd : FuncData} {kR k : Nat} (F : Fun K "known_rows" "known_rows" sKr f fd) (N : Names mg) (dRi : Own P w K mg base "rising" ["rows"] kR (spRising K)) (hRi : kR ≤ k) : FnOk P w K mg base CX0 (k + 1) f fd ["known"] (spKr K) := by
  refine F.ok scKr (fun vs H Q E h => ?_) (fun cdv A outer s H vs Q E hr h => ?_)
  · obtain ⟨D, ks, kvs, f, rfl, _⟩ := h
    rfl
  · obtain ⟨D, ks, kvs, f, rfl, hD, kd, hks, h64, q⟩ := h
    refine ⟨_, (pss_one (ps_ret (pe_own dRi hr hRi (by rfl) (pa_cons (pe_lock (pe_dc (own := [("key", 1)]) (g := gName 1) (tt := tTest (tOp rNotN (tDGet (tVar 0) (tVar 1)) (tC .non))) (tk := tVar 1) (tv := tDGet (tVar 0) (tVar 1)) rfl scKr.nd (pi_keys (pv 0)) (blkOk_by (N := ["known", "key"]) (sc := defScope sKr) (by decide +kernel)) (fun _ _ _ _ _ => pg_name (i := 1) scKr.nd rfl (Or.inl rfl)) (fun _ _ _ _ _ => pts_one (pt_cmpR op_notN1 (pe_dget (hu_of hr) (pv 0) (pv 1) (fun _ _ => rfl)) pe_non (nomark _))) (fun _ _ _ _ _ => pv 1) (fun _ _ _ _ _ => pe_dget (hu_of hr) (pv 0) (pv 1) (fun _ _ => rfl)))) pa_nil)))), ?_⟩
    refine ⟨D, .dK kvs, hD, trivial, fun od => ⟨.ref D, rfl, D, od, rfl, .inl ⟨kvs, upd_same, fun W hW => ?_⟩⟩⟩
    have hL : (upd H D (.frz od (.dK kvs))) D = some (.frz od (.dK kvs)) := upd_same
    have oth : ∀ a o, a ≠ D → H a = some o → (upd H D (.frz od (.dK kvs))) a = some o := fun a o n h => by rw [upd_ne n]; exact h
    have WD : W ≠ D := fun z => by
      subst z
      rw [hL] at hW
      cases hW
    have hW0 : H W = none := by rw [upd_ne WD] at hW; exact hW
    generalize hHL : upd H D (.frz od (.dK kvs)) = HL at hL oth hW
    have x0 : Ex HL (upd HL W (.dK [])) := Ex.new hW
    refine dc_keys (fun i G => ∃ kvw, Bar W (upd HL W (.dK [])) G ∧ G W = some (.dK kvw) ∧ DI ks kvw (seenF f kvs i)) ⟨[], Bar.refl W _, upd_same, (seen_zero f kvs) ▸ DI.nil⟩ (fun i G _ ⟨_, b, _⟩ => b _ _ WD.symm (x0 _ _ hL)) (fun i k v G hk h => ?_) (fun G h => ?_)
    · obtain ⟨kvw, b, hWG, di⟩ := h
      obtain ⟨kk, hb, e⟩ := kd.inn _ (List.mem_of_getElem? hk)
      simp only at e
      subst e
      have hv := val_at kd.nd hk
      rw [kd.val] at hv
      have hDG : G D = some (.frz od (.dK kvs)) := b _ _ WD.symm (x0 _ _ hL)
      have dg : DGet G D (.int kk) (some v) := .inl ⟨kvs, .inl kk, .inr ⟨od, hDG⟩, rfl, (val_at kd.nd hk).symm⟩
      refine g_name ⟨rfl, ?_⟩
      refine ⟨.ref D, rfl, .int kk, rfl, D, v, rfl, dg, rfl, _, rfl, ?_⟩
      have st := seen_step (f := f) hk
      cases hf : f kk with
      | none =>
        rw [hf] at hv
        cases hv
      | some o =>
        rw [hf] at hv
        cases o with
        | none =>
          cases (Option.some.inj hv : (V.non = v))
          dsimp only
          rw [if_neg (by simp)]
          refine ⟨kvw, b, hWG, ?_⟩
          rw [st, hf]
          have : fset (seenF f kvs i) kk (some (none : Option Int)).join = seenF f kvs i := by
            funext j
            unfold fset
            by_cases e : j = kk
            · subst e
              rw [if_pos rfl]
              unfold seenF
              rw [hf]
              split <;> rfl
            · rw [if_neg e]
          rw [this]
          exact di
        | some z =>
          cases (Option.some.inj hv : (V.int z = v))
          dsimp only
          rw [if_pos (by simp)]
          refine ⟨.int kk, rfl, .ref D, rfl, .int kk, rfl, D, _, rfl, dg, kvw, .inl kk, rfl, hWG, sz_lt (by have := di.len; omega), _, b.put, upd_same, ?_⟩
          rw [st, hf]
          exact di.put (hks kk (by rw [hf]; rfl))
    · obtain ⟨kvw, b, hWG, di⟩ := h
      have hDG : G D = some (.frz od (.dK kvs)) := b _ _ WD.symm (x0 _ _ hL)
      refine ⟨hDG, ?_⟩
      have ef : seenF f kvs kvs.length = fun k => (f k).join := by
        funext k
        unfold seenF
        rw [List.take_length]
        by_cases m : (Sum.inl k : Key) ∈ kvs.map Prod.fst
        · rw [if_pos m]
        · rw [if_neg m]
          cases hf : f k with
          | none => rfl
          | some o =>
            have := kd.val k
            rw [hf] at this
            exact absurd (valV_in this) m
      rw [ef] at di
      have xG : Ex H (upd G D (.dK kvs)) := fun a o h => by
        by_cases e : a = D
        · subst e
          rw [hD] at h
          rw [upd_same]
          exact h
        · rw [upd_ne e]
          refine b _ _ (fun z => ?_) (x0 _ _ (oth a o e h))
          subst z
          rw [hW0] at h
          cases h
      exact ⟨W, ks, kvw, _, rfl, by rw [upd_ne WD]; exact hWG, di, h64, fun p js H' hp x kf hj tp => q p js H' (fresh_back xG hp) (xG.trans x) kf hj tp⟩
end
end K19
namespace K19
open PySem L2 PyProof.Rows Tc Evl
abbrev sTaker : Stmt := topS 39
abbrev mInit : Stmt := inClass sTaker 0
abbrev mBegin : Stmt := inClass sTaker 1
abbrev mTake : Stmt := inClass sTaker 3
abbrev mGroup : Stmt := inClass sTaker 4
abbrev mGive : Stmt := inClass sTaker 7
abbrev mLife : Stmt := inClass sTaker 11
abbrev mPlace : Stmt := inClass sTaker 12
abbrev mRows : Stmt := inClass sTaker 13
abbrev mSure : Stmt := inClass sTaker 14
abbrev mWorth : Stmt := inClass sTaker 15
abbrev mEvents : Stmt := inClass sTaker 16
abbrev mAsked : Stmt := inClass sTaker 17
abbrev mSaved : Stmt := inClass sTaker 18
abbrev mLen : Stmt := inClass sTaker 21

/-- a taker's fields, in the order in which they are stored -/
def flds (life at' : Int) (d g pp nn : Addr) : List (Str × V) := [("own_life", .int life), ("at", .int at'), ("known", .ref d), ("given", .ref g), ("pieces", .ref pp), ("numbers", .ref nn)]
section
variable (life at' : Int) (d g pp nn : Addr)
theorem fl_own_life : (flds life at' d g pp nn).lookup ("own_life" : Str) = some (.int life) := by
  simp only [flds, List.lookup]
  rfl
theorem fl_at : (flds life at' d g pp nn).lookup ("at" : Str) = some (.int at') := by
  simp only [flds, List.lookup]
  rfl
theorem fl_known : (flds life at' d g pp nn).lookup ("known" : Str) = some (.ref d) := by
  simp only [flds, List.lookup]
  rfl
theorem fl_given : (flds life at' d g pp nn).lookup ("given" : Str) = some (.ref g) := by
  simp only [flds, List.lookup]
  rfl
theorem fl_pieces : (flds life at' d g pp nn).lookup ("pieces" : Str) = some (.ref pp) := by
  simp only [flds, List.lookup]
  rfl
theorem fl_numbers : (flds life at' d g pp nn).lookup ("numbers" : Str) = some (.ref nn) := by
  simp only [flds, List.lookup]
  rfl
theorem no___init__ : (flds life at' d g pp nn).lookup ("__init__" : Str) = none := by
  simp only [flds, List.lookup]
  rfl
theorem no_begin_with : (flds life at' d g pp nn).lookup ("begin_with" : Str) = none := by
  simp only [flds, List.lookup]
  rfl
theorem no_take : (flds life at' d g pp nn).lookup ("take" : Str) = none := by
  simp only [flds, List.lookup]
  rfl
theorem no_take_group : (flds life at' d g pp nn).lookup ("take_group" : Str) = none := by
  simp only [flds, List.lookup]
  rfl
theorem no_give_out : (flds life at' d g pp nn).lookup ("give_out" : Str) = none := by
  simp only [flds, List.lookup]
  rfl
theorem no_life : (flds life at' d g pp nn).lookup ("life" : Str) = none := by
  simp only [flds, List.lookup]
  rfl
theorem no_place : (flds life at' d g pp nn).lookup ("place" : Str) = none := by
  simp only [flds, List.lookup]
  rfl
theorem no_rows : (flds life at' d g pp nn).lookup ("rows" : Str) = none := by
  simp only [flds, List.lookup]
  rfl
theorem no_sure : (flds life at' d g pp nn).lookup ("sure" : Str) = none := by
  simp only [flds, List.lookup]
  rfl
theorem no_worth : (flds life at' d g pp nn).lookup ("worth" : Str) = none := by
  simp only [flds, List.lookup]
  rfl
theorem no_events : (flds life at' d g pp nn).lookup ("events" : Str) = none := by
  simp only [flds, List.lookup]
  rfl
theorem no_asked : (flds life at' d g pp nn).lookup ("asked" : Str) = none := by
  simp only [flds, List.lookup]
  rfl
theorem no_saved : (flds life at' d g pp nn).lookup ("saved" : Str) = none := by
  simp only [flds, List.lookup]
  rfl
theorem no___len__ : (flds life at' d g pp nn).lookup ("__len__" : Str) = none := by
  simp only [flds, List.lookup]
  rfl
theorem fl_put (z : Int) : putF "at" (.int z) (flds life at' d g pp nn) = flds life z d g pp nn := by
  unfold flds putF
  rw [if_neg (by decide +kernel)]; unfold putF
  rw [if_pos rfl]
end
structure TkAt (C : Addr) (H : Hp) (p d g pp nn : Addr) (life at' : Int) (kvs : List (Key × V)) (gv : List V) : Prop where
  ob : ∃ dx, H p = some (.ins C dx (flds life at' d g pp nn))
  dc : H d = some (.dK kvs)
  gl : H g = some (.lst gv)
  pe : H pp = some (.dK [])
  nu : H nn = some (.dK [])
  n1 : d ≠ pp
  n2 : d ≠ nn
structure Txt (K : PySem.W.Frag) (mg : Str → Option Value) (C : Addr)
    : Prop where
  cl : Cls K C
  aL : NoAttr K C "own_life"
  aA : NoAttr K C "at"
  aK : NoAttr K C "known"
  aG : NoAttr K C "given"
  aP : NoAttr K C "pieces"
  aN : NoAttr K C "numbers"
  mgC : mg "Taker" = some (.ref C)
section
variable {P : Program} {w : World} {K : PySem.W.Frag} {mg : Str → Option Value} {base : Heap}
/-- an event of a change -/
def evD (at' : Int) (c : PyData) : PyData := .tuple [.int (at' + 1), .str (if (chD c).2.isSome then "put" else "drop"), .int (chD c).1, match (chD c).2 with | some z => .int z | none => .none]
def Off2 (d g : Addr) (H H' : Hp) : Prop := ∀ a o, a ≠ d → a ≠ g → H a = some o → H' a = some o
theorem TkAt.off {C p d g pp nn : Addr} {H H' : Hp} {life at' : Int} {kvs kvs' : List (Key × V)} {gv gv' : List V} (S : TkAt C H p d g pp nn life at' kvs gv) (o : Off2 d g H H') (h1 : H' d = some (.dK kvs')) (h2 : H' g = some (.lst gv')) : TkAt C H' p d g pp nn life at' kvs' gv' := by
  have gp : pp ≠ g := fun z => by
    have := S.pe
    rw [z, S.gl] at this
    cases this
  have gn : nn ≠ g := fun z => by
    have := S.nu
    rw [z, S.gl] at this
    cases this
  obtain ⟨dx, hp⟩ := S.ob
  have pd : p ≠ d := fun z => by
    rw [z, S.dc] at hp
    cases hp
  have pg : p ≠ g := fun z => by
    rw [z, S.gl] at hp
    cases hp
  exact ⟨⟨dx, o _ _ pd pg hp⟩, h1, h2, o _ _ S.n1.symm gp S.pe, o _ _ S.n2.symm gn S.nu, S.n1, S.n2⟩
theorem nl_ch {ks : List Int} {c : PyData} (h : goodCh ks c = true) : nl 1 c = true := by
  rcases ch_kind h with ⟨kk, rfl, mk⟩ | ⟨kk, zz, rfl, mk⟩ <;> rfl
theorem nl_ev (at' : Int) (c : PyData) : nl 1 (evD at' c) = true := by
  unfold evD
  cases (chD c).2 <;> rfl
end
end K19
namespace K19
open PySem L2 PyProof.Rows Tc Evl
theorem scLife : FnScope ["self"] ["self"] (defScope mLife) := ⟨rfl, rfl, rfl, by decide +kernel, rfl, by decide +kernel, by decide +kernel⟩
theorem scPlace : FnScope ["self"] ["self"] (defScope mPlace) := ⟨rfl, rfl, rfl, by decide +kernel, rfl, by decide +kernel, by decide +kernel⟩
theorem scRows : FnScope ["self"] ["self"] (defScope mRows) := ⟨rfl, rfl, rfl, by decide +kernel, rfl, by decide +kernel, by decide +kernel⟩
theorem scSure : FnScope ["self"] ["self"] (defScope mSure) := ⟨rfl, rfl, rfl, by decide +kernel, rfl, by decide +kernel, by decide +kernel⟩
theorem scEvents : FnScope ["self"] ["self"] (defScope mEvents) := ⟨rfl, rfl, rfl, by decide +kernel, rfl, by decide +kernel, by decide +kernel⟩
theorem scSaved : FnScope ["self"] ["self"] (defScope mSaved) := ⟨rfl, rfl, rfl, by decide +kernel, rfl, by decide +kernel, by decide +kernel⟩
theorem scLen : FnScope ["self"] ["self"] (defScope mLen) := ⟨rfl, rfl, rfl, by decide +kernel, rfl, by decide +kernel, by decide +kernel⟩
/-- one place on -/
theorem TkAt.on {C p d g pp nn dx : Addr} {H : Hp} {life at' z : Int} {kvs : List (Key × V)} {gv : List V} (S : TkAt C H p d g pp nn life at' kvs gv) : TkAt C (upd H p (.ins C dx (flds life z d g pp nn))) p d g pp nn life z kvs gv := by
  obtain ⟨dx0, hp⟩ := S.ob
  have ne : ∀ {a : Addr} {o : HO}, H a = some o → (∀ dy fs, o ≠ .ins C dy fs) → a ≠ p := fun h n z => by
    rw [z, hp] at h
    exact n _ _ (Option.some.inj h).symm
  exact ⟨⟨dx, upd_same⟩, by rw [upd_ne (ne S.dc fun _ _ z => by cases z)]; exact S.dc, by rw [upd_ne (ne S.gl fun _ _ z => by cases z)]; exact S.gl, by rw [upd_ne (ne S.pe fun _ _ z => by cases z)]; exact S.pe, by rw [upd_ne (ne S.nu fun _ _ z => by cases z)]; exact S.nu, S.n1, S.n2⟩
def Off3 (p d g : Addr) (H H' : Hp) : Prop := ∀ a o, a ≠ p → a ≠ d → a ≠ g → H a = some o → H' a = some o
/-- a field told -/
def spOne (C : Addr) (r : Int → Int → V) : Sp := fun vs H Q _ => ∃ (p d g pp nn : Addr) (life at' : Int) (kvs : List (Key × V)) (gv : List V), vs = [.ref p] ∧ TkAt C H p d g pp nn life at' kvs gv ∧ ∀ H', Ex H H' → Q (r life at') H'
def spRows (K : PySem.W.Frag) (C : Addr) : Sp := fun vs H Q _ => ∃ (p d g pp nn : Addr) (life at' : Int) (kvs : List (Key × V)) (gv : List V) (f : Kn) (ks : List Int), vs = [.ref p] ∧ TkAt C H p d g pp nn life at' kvs gv ∧ KD kvs f ∧ (∀ k, ((f k).join).isSome = true → k ∈ ks) ∧ ks.length ≤ 1000 ∧ ∀ t js H', H t = none → Ex H H' → KeysOf (fun k => (f k).join) js → (∀ j ∈ js, j ∈ ks) → TP K H' t (rowsOf (fun k => (f k).join) js) → Q (.ref t) H'
/-- the keys that are known, rising -/
def sureL (f : Kn) : List Int := ((List.range 1000).filter fun (i : Nat) => (f (i : Int)).isSome).map fun (i : Nat) => (i : Int)
def spSureM (K : PySem.W.Frag) (C : Addr) : Sp := fun vs H Q _ => ∃ (p d g pp nn : Addr) (life at' : Int) (kvs : List (Key × V)) (gv : List V) (f : Kn), vs = [.ref p] ∧ TkAt C H p d g pp nn life at' kvs gv ∧ KD kvs f ∧ ∀ t H', H t = none → Ex H H' → TP K H' t (spansF (sureL f)) → Q (.ref t) H'
def spEvents (K : PySem.W.Frag) (C : Addr) : Sp := fun vs H Q _ => ∃ (p d g pp nn : Addr) (life at' : Int) (kvs : List (Key × V)) (gv : List V), vs = [.ref p] ∧ TkAt C H p d g pp nn life at' kvs gv ∧ ∀ t H', H t = none → Ex H H' → H' t = some (.lst gv) → Q (.ref t) H'
section
variable {K : PySem.W.Frag} {C p dx : Addr} {fs : List (Str × V)} {H H' : Hp}
theorem obj_rd (hp : H p = some (.ins C dx fs)) (e : ∀ a o, a ≠ p → H a = some o → H' a = some o) {a : Addr} {u : HO} (n1 : ∀ dy gs, u ≠ .ins C dy gs) (h : Rd H a u) : Rd H' a u := by
  rcases h with h | ⟨o, h⟩
  · exact .inl (e _ _ (fun z => by
      rw [z, hp] at h
      exact n1 _ _ (Option.some.inj h).symm) h)
  · exact .inr ⟨o, e _ _ (fun z => by
      rw [z, hp] at h
      cases h) h⟩
mutual
theorem dp_o (hp : H p = some (.ins C dx fs)) (e : ∀ a o, a ≠ p → H a = some o → H' a = some o) : ∀ (d : PyData) (v : V), Dp K H v d → Dp K H' v d
  | _, _, .non => .non
  | _, _, .bl b => .bl b
  | _, _, .int i => .int i
  | _, _, .str x => .str x
  | _, _, .lst h r => .lst (h.imp (obj_rd hp e fun _ _ z => by cases z) id) (dps_o hp e _ _ r)
  | _, _, .tup h r => .tup (h.imp (obj_rd hp e fun _ _ z => by cases z) id) (dps_o hp e _ _ r)
theorem dps_o (hp : H p = some (.ins C dx fs)) (e : ∀ a o, a ≠ p → H a = some o → H' a = some o) : ∀ (ds : List PyData) (vs : List V), DpAll K H vs ds → DpAll K H' vs ds
  | _, _, .nil => .nil
  | _, _, .cons h r => .cons (dp_o hp e _ _ h) (dps_o hp e _ _ r)
end
end
theorem KD.keysL {kvs : List (Key × V)} {f : Kn} (kd : KD kvs f) : ∃ ks : List Int, kvs.map (·.1) = ks.map Sum.inl ∧ ks.length ≤ 1000 ∧ ∀ ms : List Int, ms.Perm ks → ms.Pairwise (· ≤ ·) → ms = sureL f := by
  obtain ⟨ks, hks⟩ : ∃ ks : List Int, kvs.map (·.1) = ks.map Sum.inl := by
    have h := kd.inn
    clear kd
    induction kvs with
    | nil => exact ⟨[], rfl⟩
    | cons p kvs ih =>
      obtain ⟨ks, e⟩ := ih fun q m => h q (List.mem_cons_of_mem _ m)
      obtain ⟨k, _, e'⟩ := h p List.mem_cons_self
      exact ⟨k :: ks, by rw [List.map_cons, List.map_cons, e, e']⟩
  have kl : ks.length ≤ 1000 := by
    have := kd.len
    rw [← List.length_map (f := (·.1)), hks, List.length_map] at this
    exact this
  have nd : ks.Nodup := by
    have := kd.nd
    rw [hks] at this
    rw [List.Nodup, List.pairwise_map] at this
    exact this.imp fun z e => z (by rw [e])
  refine ⟨ks, hks, kl, fun ms pm pw => ?_⟩
  have pS : (sureL f).Pairwise (· < ·) := by
    unfold sureL
    rw [List.pairwise_map]
    exact (List.pairwise_lt_range.filter _).imp fun {a b} z => by omega
  have nS : (sureL f).Nodup := pS.imp fun {a b} z e => by omega
  have mem : ∀ k, k ∈ ks ↔ k ∈ sureL f := fun k => by
    have h1 : k ∈ ks ↔ (valV kvs (.inl k)).isSome = true := by
      rw [← valV_memI, hks, List.mem_map]
      exact ⟨fun m => ⟨k, m, rfl⟩, fun ⟨j, m, e⟩ => (Sum.inl.inj e) ▸ m⟩
    rw [h1, kd.val, Option.isSome_map]
    unfold sureL
    rw [List.mem_map]
    constructor
    · intro z
      have hv : (valV kvs (.inl k)).isSome = true := by rw [kd.val, Option.isSome_map]; exact z
      obtain ⟨p, hp, e⟩ := List.mem_map.mp (valV_memI.mpr hv)
      obtain ⟨j, hj, e'⟩ := kd.inn p hp
      have ejk : k = j := Sum.inl.inj (e.symm.trans e')
      refine ⟨k.toNat, List.mem_filter.mpr ⟨List.mem_range.mpr (by omega), ?_⟩, by omega⟩
      rw [show ((k.toNat : Nat) : Int) = k by omega]
      exact z
    · rintro ⟨i, m, rfl⟩
      exact (List.mem_filter.mp m).2
  have p2 : (sureL f).Pairwise (· ≤ ·) := pS.imp fun {a b} z => by omega
  exact (pm.trans ((List.perm_ext_iff_of_nodup nd nS).mpr mem)).eq_of_pairwise (fun a b _ _ x y => by omega) pw p2
section
variable {P : Program} {w : World} {K : PySem.W.Frag} {mg : Str → Option Value} {base : Heap}
theorem ok_life {f C : Addr} {fd : FuncData} {k : Nat} (F : Fun K "life" "Taker.life" mLife f fd) (T : Txt K mg C) : FnOk P w K mg base CX0 (k + 1) f fd ["self"] (spOne C fun life _ => .int life) := by
  refine F.ok scLife (fun vs H Q E h => ?_) (fun cdv A outer s H vs Q E hr h => ?_)
  · obtain ⟨p, d, g, pp, nn, life, at', kvs, gv, rfl, _⟩ := h
    rfl
  · obtain ⟨p, d, g, pp, nn, life, at', kvs, gv, rfl, S, q⟩ := h
    refine ⟨_, (pss_one (ps_ret (pe_fld (pv 0) rfl))), ?_⟩
    obtain ⟨dx, hp⟩ := S.ob
    exact ⟨_, rfl, p, C, dx, _, _, rfl, hp, T.cl, T.aL, fl_own_life _ _ _ _ _ _, q H (Ex.refl H)⟩
theorem ok_place {f C : Addr} {fd : FuncData} {k : Nat} (F : Fun K "place" "Taker.place" mPlace f fd) (T : Txt K mg C) : FnOk P w K mg base CX0 (k + 1) f fd ["self"] (spOne C fun _ a => .int a) := by
  refine F.ok scPlace (fun vs H Q E h => ?_) (fun cdv A outer s H vs Q E hr h => ?_)
  · obtain ⟨p, d, g, pp, nn, life, at', kvs, gv, rfl, _⟩ := h
    rfl
  · obtain ⟨p, d, g, pp, nn, life, at', kvs, gv, rfl, S, q⟩ := h
    refine ⟨_, (pss_one (ps_ret (pe_fld (pv 0) rfl))), ?_⟩
    obtain ⟨dx, hp⟩ := S.ob
    exact ⟨_, rfl, p, C, dx, _, _, rfl, hp, T.cl, T.aA, fl_at _ _ _ _ _ _, q H (Ex.refl H)⟩
theorem ok_rows {f C : Addr} {fd : FuncData} {kKr k : Nat} (F : Fun K "rows" "Taker.rows" mRows f fd) (T : Txt K mg C) (dKr : Own P w K mg base "known_rows" ["known"] kKr (spKr K)) (hKr : kKr ≤ k) : FnOk P w K mg base CX0 (k + 1) f fd ["self"] (spRows K C) := by
  refine F.ok scRows (fun vs H Q E h => ?_) (fun cdv A outer s H vs Q E hr h => ?_)
  · obtain ⟨p, d, g, pp, nn, life, at', kvs, gv, f, ks, rfl, _⟩ := h
    rfl
  · obtain ⟨p, d, g, pp, nn, life, at', kvs, gv, f, ks, rfl, S, kd, hk, h64, q⟩ := h
    refine ⟨_, (pss_one (ps_ret (pe_own dKr hr hKr (by rfl) (pa_cons (pe_fld (pv 0) rfl) pa_nil)))), ?_⟩
    obtain ⟨dx, hp⟩ := S.ob
    exact ⟨_, rfl, p, C, dx, _, _, rfl, hp, T.cl, T.aK, fl_known _ _ _ _ _ _, d, ks, kvs, f, rfl, S.dc, kd, hk, h64, q⟩
theorem ok_sureM {f C : Addr} {fd : FuncData} {kSo k : Nat} (F : Fun K "sure" "Taker.sure" mSure f fd) (T : Txt K mg C) (N : Names mg) (dSo : Own P w K mg base "stretches_of" ["keys"] kSo (spSo K)) (hSo : kSo ≤ k) : FnOk P w K mg base CX0 (k + 1) f fd ["self"] (spSureM K C) := by
  refine F.ok scSure (fun vs H Q E h => ?_) (fun cdv A outer s H vs Q E hr h => ?_)
  · obtain ⟨p, d, g, pp, nn, life, at', kvs, gv, f, rfl, _⟩ := h
    rfl
  · obtain ⟨p, d, g, pp, nn, life, at', kvs, gv, f, rfl, S, kd, q⟩ := h
    refine ⟨_, (pss_one (ps_ret (pe_own dSo hr hSo (by rfl) (pa_cons (pe_callB (cr_sortedDA rfl) (by rfl) N.sorted boot_sorted (pa_cons (pe_fld (pv 0) rfl) pa_nil)) pa_nil)))), ?_⟩
    obtain ⟨dx, hp⟩ := S.ob
    obtain ⟨ks, hks, kl, uniq⟩ := kd.keysL
    refine ⟨_, rfl, p, C, dx, _, _, rfl, hp, T.cl, T.aK, fl_known _ _ _ _ _ _, d, kvs, ks, rfl, .inl S.dc, hks, fun ms l pm pw hl => ⟨l, ms, rfl, upd_same, by rw [pm.length_eq]; exact kl, fun t H' ht x' tp => ?_⟩⟩
    rw [uniq ms pm pw] at tp
    exact q t H' (fresh_back (Ex.new hl) ht) ((Ex.new hl).trans x') tp
theorem ok_events {f C : Addr} {fd : FuncData} {k : Nat} (F : Fun K "events" "Taker.events" mEvents f fd) (T : Txt K mg C) (N : Names mg) : FnOk P w K mg base CX0 (k + 1) f fd ["self"] (spEvents K C) := by
  refine F.ok scEvents (fun vs H Q E h => ?_) (fun cdv A outer s H vs Q E hr h => ?_)
  · obtain ⟨p, d, g, pp, nn, life, at', kvs, gv, rfl, _⟩ := h
    rfl
  · obtain ⟨p, d, g, pp, nn, life, at', kvs, gv, rfl, S, q⟩ := h
    refine ⟨_, (pss_one (ps_ret (pe_callTy call_list_of (by rfl) N.list boot_list (pa_cons (pe_fld (pv 0) rfl) pa_nil)))), ?_⟩
    obtain ⟨dx, hp⟩ := S.ob
    exact ⟨_, rfl, p, C, dx, _, _, rfl, hp, T.cl, T.aG, fl_given _ _ _ _ _ _, g, gv, rfl, .inl (sq_of S.gl), fun l hl => q l _ hl (Ex.new hl) upd_same⟩
end
end K19
namespace K19
open PySem L2 PyProof.Rows Tc Evl
theorem scAsked : FnScope ["self", "told", "number", "piece"] ["self"] (defScope mAsked) := ⟨rfl, rfl, rfl, by decide +kernel, rfl, by decide +kernel, by decide +kernel⟩
theorem scBegin : FnScope ["self", "saved", "rows", "sure", "first", "last"] ["self", "saved"] (defScope mBegin) := ⟨rfl, rfl, rfl, by decide +kernel, rfl, by decide +kernel, by decide +kernel⟩
def spSaved (K : PySem.W.Frag) (C : Addr) : Sp := fun vs H Q _ => ∃ (p d g pp nn : Addr) (life at' : Int) (kvs : List (Key × V)) (gv : List V) (f : Kn) (ks : List Int), vs = [.ref p] ∧ TkAt C H p d g pp nn life at' kvs gv ∧ KD kvs f ∧ (∀ k, ((f k).join).isSome = true → k ∈ ks) ∧ ks.length ≤ 1000 ∧ ∀ t js H', H t = none → Ex H H' → KeysOf (fun k => (f k).join) js → Dp K H' (.ref t) (.tuple [.int at', rowsD (rowsOf (fun k => (f k).join) js), rowsD (spansF (sureL f))]) → Q (.ref t) H'
def spLen (K : PySem.W.Frag) (C : Addr) : Sp := fun vs H Q _ => ∃ (p d g pp nn : Addr) (life at' : Int) (kvs : List (Key × V)) (gv : List V) (f : Kn) (ks : List Int), vs = [.ref p] ∧ TkAt C H p d g pp nn life at' kvs gv ∧ KD kvs f ∧ (∀ k, ((f k).join).isSome = true → k ∈ ks) ∧ ks.length ≤ 1000 ∧ ∀ js H', Ex H H' → KeysOf (fun k => (f k).join) js → js.length ≤ 1000 → Q (.int (js.length : Int)) H'
def spAsked (C : Addr) : Sp := fun vs H Q _ => ∃ (p d g pp nn : Addr) (life at' : Int) (kvs : List (Key × V)) (gv : List V), vs = [.ref p] ∧ TkAt C H p d g pp nn life at' kvs gv ∧ ∀ t H', H t = none → Ex H H' → H' t = some (.lst []) → Q (.ref t) H'
/-- what is begun with -/
def spansIn (sp : List (Int × Int)) : Prop := ∀ r ∈ sp, 0 ≤ r.1 ∧ r.1 ≤ r.2 ∧ r.2 ≤ 1000
def learnS (f : Kn) (sp rws : List (Int × Int)) : Kn := sp.foldl (fun f r => learnP f r.1 r.2 rws) f
def spBegin (K : PySem.W.Frag) (C : Addr) : Sp := fun vs H Q _ => ∃ (p d g pp nn sv : Addr) (life at' at2 : Int) (kvs : List (Key × V)) (gv : List V) (f : Kn) (rws sp : List (Int × Int)), vs = [.ref p, .ref sv] ∧ TkAt C H p d g pp nn life at' kvs gv ∧ KD kvs f ∧ Dp K H (.ref sv) (.tuple [.int at2, rowsD rws, rowsD sp]) ∧ rws.length ≤ 5000 ∧ spansIn sp ∧
  ∀ kvs' H', Off3 p d g H H' → H' g = some (.lst gv) → TkAt C H' p d g pp nn life at2 kvs' gv → KD kvs' (learnS f sp rws) → Q .non H'
section
variable {P : Program} {w : World} {K : PySem.W.Frag} {mg : Str → Option Value} {base : Heap}
theorem TkAt.ex {C p d g pp nn : Addr} {H H' : Hp} {life at' : Int} {kvs : List (Key × V)} {gv : List V} (S : TkAt C H p d g pp nn life at' kvs gv) (x : Ex H H') : TkAt C H' p d g pp nn life at' kvs gv := S.off (fun a o _ _ z => x a o z) (x _ _ S.dc) (x _ _ S.gl)
theorem ok_saved {f C fR fS : Addr} {fd fdR fdS : FuncData} {kR kS k : Nat} (F : Fun K "saved" "Taker.saved" mSaved f fd) (T : Txt K mg C) (FR : FnOk P w K mg base CX0 kR fR fdR ["self"] (spRows K C)) (bR : Binds K fdR ["self"] []) (mR : Meth K C "rows" fR) (hR : kR ≤ k) (FS : FnOk P w K mg base CX0 kS fS fdS ["self"] (spSureM K C)) (bS : Binds K fdS ["self"] []) (mS : Meth K C "sure" fS) (hS : kS ≤ k) : FnOk P w K mg base CX0 (k + 1) f fd ["self"] (spSaved K C) := by
  refine F.ok scSaved (fun vs H Q E h => ?_) (fun cdv A outer s H vs Q E hr h => ?_)
  · obtain ⟨p, d, g, pp, nn, life, at', kvs, gv, f, ks, rfl, _⟩ := h
    rfl
  · obtain ⟨p, d, g, pp, nn, life, at', kvs, gv, f, ks, rfl, S, kd, hk, h64, q⟩ := h
    refine ⟨_, (pss_one (ps_ret (pe_tup (pa_cons (pe_fld (pv 0) rfl) (pa_cons (pe_meth0 (pv 0) T.cl mR FR (hr.mono hR) bR .nil pass0) (pa_cons (pe_meth0 (pv 0) T.cl mS FS (hr.mono hS) bS .nil pass0) pa_nil)))))), ?_⟩
    obtain ⟨dx, hp⟩ := S.ob
    refine ⟨_, rfl, p, C, dx, _, _, rfl, hp, T.cl, T.aA, fl_at _ _ _ _ _ _, _, rfl, p, dx, _, rfl, hp, no_rows _ _ _ _ _ _, p, d, g, pp, nn, life, at', kvs, gv, f, ks, rfl, S, kd, hk, h64, fun t1 js H1 _ x1 kf hj tp1 => ?_⟩
    have S1 := S.ex x1
    obtain ⟨dx1, hp1⟩ := S1.ob
    refine ⟨_, rfl, p, dx1, _, rfl, hp1, no_sure _ _ _ _ _ _, p, d, g, pp, nn, life, at', kvs, gv, f, rfl, S1, kd, fun t2 H2 _ x2 tp2 => ⟨sz_of (by simp), fun t ht => ?_⟩⟩
    exact q t js _ (fresh_back (x1.trans x2) ht) ((x1.trans x2).trans (Ex.new ht)) kf (.tup (st_of upd_same) (.cons (.int _) (.cons (dp_same (x2.trans (Ex.new ht)) _ _ tp1.dp) (.cons (dp_same (Ex.new ht) _ _ tp2.dp) .nil))))
theorem ok_len {f C fR : Addr} {fd fdR : FuncData} {kR k : Nat} (F : Fun K "__len__" "Taker.__len__" mLen f fd) (T : Txt K mg C) (N : Names mg) (FR : FnOk P w K mg base CX0 kR fR fdR ["self"] (spRows K C)) (bR : Binds K fdR ["self"] []) (mR : Meth K C "rows" fR) (hR : kR ≤ k) : FnOk P w K mg base CX0 (k + 1) f fd ["self"] (spLen K C) := by
  refine F.ok scLen (fun vs H Q E h => ?_) (fun cdv A outer s H vs Q E hr h => ?_)
  · obtain ⟨p, d, g, pp, nn, life, at', kvs, gv, f, ks, rfl, _⟩ := h
    rfl
  · obtain ⟨p, d, g, pp, nn, life, at', kvs, gv, f, ks, rfl, S, kd, hk, h64, q⟩ := h
    refine ⟨_, (pss_one (ps_ret (pe_callB call_len_seq (by rfl) N.len PySem.boot_len (pa_cons (pe_meth0 (pv 0) T.cl mR FR (hr.mono hR) bR .nil pass0) pa_nil)))), ?_⟩
    obtain ⟨dx, hp⟩ := S.ob
    refine ⟨_, rfl, p, dx, _, rfl, hp, no_rows _ _ _ _ _ _, p, d, g, pp, nn, life, at', kvs, gv, f, ks, rfl, S, kd, hk, h64, fun t1 js H1 _ x1 kf hj tp1 => ?_⟩
    obtain ⟨xs, pt, dx'⟩ := tp1
    have el : xs.length = js.length := by
      rw [dps_len dx', List.length_map]
      unfold rowsOf
      rw [List.length_map]
    refine ⟨t1, xs, rfl, .inr pt.st, ?_⟩
    rw [el]
    exact q js H1 x1 kf (by have := keys_few kf hj; omega)
theorem ok_asked {f C : Addr} {fd : FuncData} {k : Nat} (F : Fun K "asked" "Taker.asked" mAsked f fd) (T : Txt K mg C) (N : Names mg) : FnOk P w K mg base CX0 (k + 1) f fd ["self"] (spAsked C) := by
  refine F.ok scAsked (fun vs H Q E h => ?_) (fun cdv A outer s H vs Q E hr h => ?_)
  · obtain ⟨p, d, g, pp, nn, life, at', kvs, gv, rfl, _⟩ := h
    rfl
  · obtain ⟨p, d, g, pp, nn, life, at', kvs, gv, rfl, S, q⟩ := h
    refine ⟨_, (pss_cons (ps_set (i := 1) scAsked.nd rfl (.inl rfl) (pe_lst pa_nil)) (pss_cons (ps_for PassesOwn.never rfl (pi_list (pe_callB (cr_sortedDA rfl) (by rfl) N.sorted boot_sorted (pa_cons (pe_fld (pv 0) rfl) pa_nil))) (pg_name (i := 2) scAsked.nd rfl (.inl rfl)) pss_never) (pss_one (ps_ret (pv 1))))), ?_⟩
    refine s_seq ⟨Nat.zero_le _, fun L hL => g_name ?_⟩
    dsimp only
    have x1 : Ex H (upd H L (.lst [])) := Ex.new hL
    have h1 : (upd H L (.lst [])) L = some (.lst []) := upd_same
    generalize hH1 : upd H L (.lst []) = H1 at x1 h1
    obtain ⟨dx, hp⟩ := (S.ex x1).ob
    refine s_seq ⟨_, rfl, p, C, dx, _, _, rfl, hp, T.cl, T.aP, fl_pieces _ _ _ _ _ _, pp, [], [], rfl, .inl (S.ex x1).pe, rfl, fun ms l pm pw hl => ⟨l, rfl, ⟨_, sq_of upd_same⟩, ?_⟩⟩
    obtain rfl : ms = [] := List.perm_nil.mp pm
    have xl : Ex H1 (upd H1 l (.lst (([] : List Int).map V.int))) := Ex.new hl
    refine for_list (K := K) (a := l) (xs := ([] : List Int).map V.int) (fun j σ' G => σ' = [some (.ref p), some (.ref L), none, none] ∧ Ex H1 G ∧ G l = some (.lst (([] : List Int).map V.int))) ⟨rfl, xl, upd_same⟩ (fun j σ' G _ h => sq_of h.2.2) (fun j x σ' G hx _ => by cases hx) (fun σ' G h => ?_)
    obtain ⟨rfl, xg, _⟩ := h
    exact ⟨.ref L, rfl, q L G hL (x1.trans xg) (xg _ _ h1)⟩
set_option maxHeartbeats 1000000 in
theorem ok_begin {f C : Addr} {fd : FuncData} {kLp k : Nat} (F : Fun K "begin_with" "Taker.begin_with" mBegin f fd) (T : Txt K mg C) (dLp : Own P w K mg base "learn_piece" ["known", "stretch", "rows"] kLp (spLp K)) (hLp : kLp ≤ k) : FnOk P w K mg base CX0 (k + 1) f fd ["self", "saved"] (spBegin K C) := by
  refine F.ok scBegin (fun vs H Q E h => ?_) (fun cdv A outer s H vs Q E hr h => ?_)
  · obtain ⟨p, d, g, pp, nn, sv, life, at', at2, kvs, gv, f, rws, sp, rfl, _⟩ := h
    rfl
  · obtain ⟨p, d, g, pp, nn, sv, life, at', at2, kvs, gv, f, rws, sp, rfl, S, kd, hsv, rl, hsp, q⟩ := h
    refine ⟨_, (pss_cons (ps_asg (pv 1) (pg_tup rfl (pgs_cons (pg_fldT (pv 0)) (pgs_cons (pg_name (i := 2) scBegin.nd rfl (.inl rfl)) (pgs_cons (pg_name (i := 3) scBegin.nd rfl (.inl rfl)) pgs_nil))))) (pss_one (ps_for PassesOwn.never rfl (pi_tup (pv 3)) (pg_tup rfl (pgs_cons (pg_name (i := 4) scBegin.nd rfl (.inl rfl)) (pgs_cons (pg_name (i := 5) scBegin.nd rfl (.inl rfl)) pgs_nil))) (pss_one (ps_expr (pe_own dLp hr hLp (by rfl) (pa_cons (pe_fld (pv 0) rfl) (pa_cons (pe_tup (pa_cons (pv 4) (pa_cons (pv 5) pa_nil))) (pa_cons (pv 2) pa_nil))))))))), ?_⟩
    obtain ⟨dx, hp⟩ := S.ob
    obtain ⟨sva, u0, u1, u2, e, ht, h0, h1, h2⟩ := dpt3 hsv
    cases e
    cases h0
    have bp : ∀ a o, a ≠ p → H a = some o → (upd H p (.ins C dx (flds life at2 d g pp nn))) a = some o := fun a o n h => by rw [upd_ne n]; exact h
    refine s_seq ⟨.ref sv, rfl, sv, _, rfl, ht, rfl, _, _, rfl, ?_⟩
    refine ⟨_, rfl, p, C, dx, _, rfl, hp, T.cl, T.aA, by show 6 < 1000; decide, ?_⟩
    rw [fl_put]
    refine ⟨_, _, rfl, _, _, rfl, rfl, ?_⟩
    dsimp only
    have S1 : TkAt C (upd H p (.ins C dx (flds life at2 d g pp nn))) p d g pp nn life at2 kvs gv := S.on
    have h1' := dp_o (K := K) hp bp _ _ h1
    have h2' := dp_o (K := K) hp bp _ _ h2
    have off1 : ∀ a o, a ≠ p → H a = some o → (upd H p (.ins C dx (flds life at2 d g pp nn))) a = some o := bp
    generalize hH1 : upd H p (.ins C dx (flds life at2 d g pp nn)) = H1 at S1 h1' h2' off1
    obtain ⟨ps, xs, rfl, hps, hxs, xl⟩ := rows_at_ref h2'
    refine s_forT (K := K) (a := ps) (xs := xs) (ev_var rfl) hps (fun j σ' G => ∃ y4 y5 kvs', σ' = [some (.ref p), some (.ref sv), some u1, some (.ref ps), y4, y5] ∧ Bar d H1 G ∧ G d = some (.dK kvs') ∧ KD kvs' (learnS f (sp.take j) rws)) (fun G x => ⟨none, none, kvs, rfl, Bar.ex x, x _ _ S1.dc, kd⟩) (fun j σ' G _ ⟨_, _, _, _, b, _⟩ => bar_t S1.dc b hps) (fun j x σ' G hx p' => ?_) (fun σ' G p' => ?_)
    · obtain ⟨y4, y5, kvs', rfl, b, hd', kd'⟩ := p'
      obtain ⟨dd, hdd, hxd⟩ := dps_at (dps_bar S1.dc b _ _ hxs) hx
      rw [List.getElem?_map] at hdd
      obtain ⟨r, hr', rfl⟩ := Option.map_eq_some_iff.mp hdd
      obtain ⟨pa, v0, v1, rfl, hpa, e0, e1⟩ := dpt2 hxd
      cases e0
      cases e1
      obtain ⟨r1, r2, r3⟩ := hsp r (List.mem_of_getElem? hr')
      refine ⟨pa, _, rfl, hpa, rfl, _, _, rfl, _, _, rfl, rfl, ?_⟩
      dsimp only
      have gd : g ≠ d := fun z => by
        have := S1.gl
        rw [z, S1.dc] at this
        cases this
      have SG : TkAt C G p d g pp nn life at2 kvs' gv := S1.off (fun a o n _ z => b a o n z) hd' (b _ _ gd S1.gl)
      obtain ⟨dxG, hpG⟩ := SG.ob
      refine ⟨_, rfl, p, C, dxG, _, _, rfl, hpG, T.cl, T.aK, fl_known _ _ _ _ _ _, _, rfl, _, rfl, sz_of (by simp), fun t ht' => ?_⟩
      have xt : Ex G (upd G t (.tup [.int r.1, .int r.2])) := Ex.new ht'
      have htt : (upd G t (.tup [.int r.1, .int r.2])) t = some (.tup [.int r.1, .int r.2]) := upd_same
      generalize hG2 : upd G t (.tup [.int r.1, .int r.2]) = G2 at xt htt
      refine ⟨_, rfl, d, t, kvs', _, u1, rws, r.1, r.2, rfl, xt _ _ hd', kd', st_of htt, r1, r2, r3, dp_same xt _ _ (dp_bar S1.dc b _ _ h1'), rl, fun pn kvs2 G3 _ b3 _ hd3 kd3 => ⟨_, _, kvs2, rfl, (b.trans (Bar.ex xt)).trans b3, hd3, ?_⟩⟩
      unfold learnS at kd3 ⊢
      rw [take_rows sp hr', List.foldl_append]
      exact kd3
    · obtain ⟨y4, y5, kvs', rfl, b, hd', kd'⟩ := p'
      rw [xl, List.take_length] at kd'
      have gd : g ≠ d := fun z => by
        have := S1.gl
        rw [z, S1.dc] at this
        cases this
      exact q kvs' G (fun a o n1 n2 _ z => b a o n2 (off1 a o n1 z)) (b _ _ gd S1.gl) (S1.off (fun a o n _ z => b a o n z) hd' (b _ _ gd S1.gl)) kd'
end
end K19
namespace K19
open PySem L2 PyProof.Rows Tc Evl
theorem scInit : FnScope ["self", "life", "place", "saved"] ["self", "life", "place", "saved"] (defScope mInit) := ⟨rfl, rfl, rfl, by decide +kernel, rfl, by decide +kernel, by decide +kernel⟩
theorem scWorth : FnScope ["self", "key"] ["self", "key"] (defScope mWorth) := ⟨rfl, rfl, rfl, by decide +kernel, rfl, by decide +kernel, by decide +kernel⟩
theorem putF_le {f : Str} {v : V} : ∀ {fs : List (Str × V)} {n : Nat}, fs.length ≤ n → (putF f v fs).length ≤ n + 1
  | [], n, _ => by show 1 ≤ n + 1; omega
  | (g, x) :: r, n, h => by
    show (if g = f then _ else _ : List (Str × V)).length ≤ n + 1
    split
    · exact Nat.le_succ_of_le h
    · rw [List.length_cons] at h ⊢
      have := putF_le (f := f) (v := v) (fs := r) (n := n - 1) (by omega)
      omega
theorem flds_made (life at' : Int) (d g pp nn : Addr) : putF "numbers" (.ref nn) (putF "pieces" (.ref pp) (putF "given" (.ref g) (putF "known" (.ref d) (putF "at" (.int at') (putF "own_life" (.int life) []))))) = flds life at' d g pp nn := by
  simp only [flds, putF]
  rfl
def spInit (K : PySem.W.Frag) (C : Addr) : Sp := fun vs H Q _ => ∃ (p dx sv : Addr) (life at0 at2 : Int) (rws sp : List (Int × Int)), vs = [.ref p, .int life, .int at0, .ref sv] ∧ H p = some (.ins C dx []) ∧ Dp K H (.ref sv) (.tuple [.int at2, rowsD rws, rowsD sp]) ∧ rws.length ≤ 5000 ∧ spansIn sp ∧
  ∀ d g pp nn kvs' H', H d = none → H g = none → (∀ a o, a ≠ p → H a = some o → H' a = some o) → TkAt C H' p d g pp nn life at2 kvs' [] → KD kvs' (learnS (fun _ => none) sp rws) → Q .non H'
def spKey : Sp := fun vs H Q _ => ∃ k : Int, vs = [.int k] ∧ (0 ≤ k ∧ k < 1000) ∧ ∀ H', Ex H H' → Q (.bl true) H'
section
variable {P : Program} {w : World} {K : PySem.W.Frag} {mg : Str → Option Value} {base : Heap}
theorem mk_step {Hk : Hp} {p d : Addr} {o o2 op : HO} (hp : Hk p = some op) (hd : Hk d = none) : p ≠ d ∧ (upd Hk d o) p = some op ∧ (upd (upd Hk d o) p o2) p = some o2 ∧ (upd (upd Hk d o) p o2) d = some o ∧ ∀ a u, a ≠ p → Hk a = some u → (upd (upd Hk d o) p o2) a = some u := by
  have pd : p ≠ d := fun z => by
    rw [z, hd] at hp
    cases hp
  refine ⟨pd, by rw [upd_ne pd]; exact hp, upd_same, by rw [upd_ne pd.symm]; exact upd_same, fun a u n h => ?_⟩
  rw [upd_ne n, upd_ne fun z => by rw [z, hd] at h; cases h]
  exact h
set_option maxHeartbeats 1000000 in
theorem ok_init {f C fB : Addr} {fd fdB : FuncData} {kB k : Nat} (F : Fun K "__init__" "Taker.__init__" mInit f fd) (T : Txt K mg C) (FB : FnOk P w K mg base CX0 kB fB fdB ["self", "saved"] (spBegin K C)) (bB : Binds K fdB ["self", "saved"] []) (mB : Meth K C "begin_with" fB) (hB : kB ≤ k) : FnOk P w K mg base CX0 (k + 1) f fd ["self", "life", "place", "saved"] (spInit K C) := by
  refine F.ok scInit (fun vs H Q E h => ?_) (fun cdv A outer s H vs Q E hr h => ?_)
  · obtain ⟨p, dx, sv, life, at0, at2, rws, sp, rfl, _⟩ := h
    rfl
  · obtain ⟨p, dx, sv, life, at0, at2, rws, sp, rfl, hp, hsv, rl, hsp, q⟩ := h
    refine ⟨_, (pss_cons (ps_fld (pv 0) (pv 1) rfl)
      (pss_cons (ps_fld (pv 0) (pv 2) rfl)
      (pss_cons (ps_fld (pv 0) pe_dnewK rfl)
      (pss_cons (ps_fld (pv 0) (pe_lst pa_nil) rfl)
      (pss_cons (ps_fld (pv 0) pe_dnewK rfl)
      (pss_cons (ps_fld (pv 0) pe_dnewK rfl)
      (pss_one (ps_if (pt_cmpR op_notN1 (pv 3) pe_non (nomark _)) (pss_one (ps_expr (pe_meth (pv 0) T.cl mB FB (hr.mono hB) bB .nil pass0 (pa_cons (pv 3) pa_nil)))) pss_nil)))))))), ?_⟩
    have n0 : ([] : List (Str × V)).length ≤ 0 := Nat.le_refl _
    have n1 : (putF "own_life" (.int life) []).length ≤ 1 := putF_le n0
    have n2 : (putF "at" (.int at0) (putF "own_life" (.int life) [])).length ≤ 2 := putF_le n1
    -- own_life, at
    refine s_seq ⟨.int life, rfl, .ref p, rfl, p, C, dx, [], rfl, hp, T.cl, T.aL, by show 0 < 1000; decide, ?_⟩
    refine s_seq ⟨.int at0, rfl, .ref p, rfl, p, C, dx, _, rfl, upd_same, T.cl, T.aA, by omega, ?_⟩
    rw [upd_upd]
    have bb2 : ∀ a o, a ≠ p → H a = some o → (upd H p (.ins C dx (putF "at" (.int at0) (putF "own_life" (.int life) [])))) a = some o := fun a o n h => by rw [upd_ne n]; exact h
    have hp2 : (upd H p (.ins C dx (putF "at" (.int at0) (putF "own_life" (.int life) [])))) p = some (.ins C dx (putF "at" (.int at0) (putF "own_life" (.int life) []))) := upd_same
    have free2 : ∀ a, (upd H p (.ins C dx (putF "at" (.int at0) (putF "own_life" (.int life) [])))) a = none → H a = none := fun a ha => by
      have ap : a ≠ p := fun z => by rw [z, upd_same] at ha; cases ha
      rw [upd_ne ap] at ha
      exact ha
    generalize hH2 : upd H p (.ins C dx (putF "at" (.int at0) (putF "own_life" (.int life) []))) = H2 at bb2 hp2 free2
    have nF2 := n2
    generalize hF2 : putF "at" (.int at0) (putF "own_life" (.int life) []) = F2 at hp2 nF2
    refine s_seq (fun d hd => ?_)
    have nF3 : (putF "known" (.ref d) F2).length ≤ 3 := putF_le nF2
    obtain ⟨pn2, hq2, hp3, ho2, fr2⟩ := mk_step (o := .dK []) (o2 := .ins C dx (putF "known" (.ref d) F2)) hp2 hd
    refine ⟨.ref p, rfl, p, C, dx, _, rfl, hq2, T.cl, T.aK, by omega, ?_⟩
    dsimp only
    have n02 : H d = none := free2 d hd
    have free3 : ∀ a, (upd (upd H2 d (.dK [])) p (.ins C dx (putF "known" (.ref d) F2))) a = none → H a = none := fun a ha => free2 a (by
      have ap : a ≠ p := fun z => by rw [z, upd_same] at ha; cases ha
      have av : a ≠ d := fun z => by rw [z, ho2] at ha; cases ha
      rw [upd_ne ap, upd_ne av] at ha
      exact ha)
    have bb3 : ∀ a o, a ≠ p → H a = some o → (upd (upd H2 d (.dK [])) p (.ins C dx (putF "known" (.ref d) F2))) a = some o := fun a o m h => fr2 a o m (bb2 a o m h)
    generalize hG2 : upd (upd H2 d (.dK [])) p (.ins C dx (putF "known" (.ref d) F2)) = H3 at hp3 ho2 fr2 free3 bb3
    generalize hF3 : putF "known" (.ref d) F2 = F3 at hp3 nF3
    refine s_seq ⟨Nat.zero_le _, fun g hg => ?_⟩
    have nF4 : (putF "given" (.ref g) F3).length ≤ 4 := putF_le nF3
    obtain ⟨pn3, hq3, hp4, ho3, fr3⟩ := mk_step (o := .lst []) (o2 := .ins C dx (putF "given" (.ref g) F3)) hp3 hg
    refine ⟨.ref p, rfl, p, C, dx, _, rfl, hq3, T.cl, T.aG, by omega, ?_⟩
    dsimp only
    have n03 : H g = none := free3 g hg
    have free4 : ∀ a, (upd (upd H3 g (.lst [])) p (.ins C dx (putF "given" (.ref g) F3))) a = none → H a = none := fun a ha => free3 a (by
      have ap : a ≠ p := fun z => by rw [z, upd_same] at ha; cases ha
      have av : a ≠ g := fun z => by rw [z, ho3] at ha; cases ha
      rw [upd_ne ap, upd_ne av] at ha
      exact ha)
    have bb4 : ∀ a o, a ≠ p → H a = some o → (upd (upd H3 g (.lst [])) p (.ins C dx (putF "given" (.ref g) F3))) a = some o := fun a o m h => fr3 a o m (bb3 a o m h)
    generalize hG3 : upd (upd H3 g (.lst [])) p (.ins C dx (putF "given" (.ref g) F3)) = H4 at hp4 ho3 fr3 free4 bb4
    generalize hF4 : putF "given" (.ref g) F3 = F4 at hp4 nF4
    refine s_seq (fun pp hpp => ?_)
    have nF5 : (putF "pieces" (.ref pp) F4).length ≤ 5 := putF_le nF4
    obtain ⟨pn4, hq4, hp5, ho4, fr4⟩ := mk_step (o := .dK []) (o2 := .ins C dx (putF "pieces" (.ref pp) F4)) hp4 hpp
    refine ⟨.ref p, rfl, p, C, dx, _, rfl, hq4, T.cl, T.aP, by omega, ?_⟩
    dsimp only
    have n04 : H pp = none := free4 pp hpp
    have free5 : ∀ a, (upd (upd H4 pp (.dK [])) p (.ins C dx (putF "pieces" (.ref pp) F4))) a = none → H a = none := fun a ha => free4 a (by
      have ap : a ≠ p := fun z => by rw [z, upd_same] at ha; cases ha
      have av : a ≠ pp := fun z => by rw [z, ho4] at ha; cases ha
      rw [upd_ne ap, upd_ne av] at ha
      exact ha)
    have bb5 : ∀ a o, a ≠ p → H a = some o → (upd (upd H4 pp (.dK [])) p (.ins C dx (putF "pieces" (.ref pp) F4))) a = some o := fun a o m h => fr4 a o m (bb4 a o m h)
    generalize hG4 : upd (upd H4 pp (.dK [])) p (.ins C dx (putF "pieces" (.ref pp) F4)) = H5 at hp5 ho4 fr4 free5 bb5
    generalize hF5 : putF "pieces" (.ref pp) F4 = F5 at hp5 nF5
    refine s_seq (fun nn hnn => ?_)
    have nF6 : (putF "numbers" (.ref nn) F5).length ≤ 6 := putF_le nF5
    obtain ⟨pn5, hq5, hp6, ho5, fr5⟩ := mk_step (o := .dK []) (o2 := .ins C dx (putF "numbers" (.ref nn) F5)) hp5 hnn
    refine ⟨.ref p, rfl, p, C, dx, _, rfl, hq5, T.cl, T.aN, by omega, ?_⟩
    dsimp only
    have n05 : H nn = none := free5 nn hnn
    have free6 : ∀ a, (upd (upd H5 nn (.dK [])) p (.ins C dx (putF "numbers" (.ref nn) F5))) a = none → H a = none := fun a ha => free5 a (by
      have ap : a ≠ p := fun z => by rw [z, upd_same] at ha; cases ha
      have av : a ≠ nn := fun z => by rw [z, ho5] at ha; cases ha
      rw [upd_ne ap, upd_ne av] at ha
      exact ha)
    have bb6 : ∀ a o, a ≠ p → H a = some o → (upd (upd H5 nn (.dK [])) p (.ins C dx (putF "numbers" (.ref nn) F5))) a = some o := fun a o m h => fr5 a o m (bb5 a o m h)
    generalize hG5 : upd (upd H5 nn (.dK [])) p (.ins C dx (putF "numbers" (.ref nn) F5)) = H6 at hp6 ho5 fr5 free6 bb6
    generalize hF6 : putF "numbers" (.ref nn) F5 = F6 at hp6 nF6
    have eF : F6 = flds life at0 d g pp nn := by
      rw [← hF6, ← hF5, ← hF4, ← hF3, ← hF2]
      exact flds_made life at0 d g pp nn
    rw [eF] at hp6
    have dp : d ≠ p := pn2.symm
    have gp : g ≠ p := pn3.symm
    have d4 := fr3 _ _ dp ho2
    have d5 := fr4 _ _ dp d4
    have dpp : d ≠ pp := fun z => by
      rw [z, hpp] at d4
      cases d4
    have dnn : d ≠ nn := fun z => by
      rw [z, hnn] at d5
      cases d5
    have S6 : TkAt C H6 p d g pp nn life at0 [] [] := ⟨⟨dx, hp6⟩, fr5 _ _ dp d5, fr5 _ _ gp (fr4 _ _ gp ho3), fr5 _ _ pn4.symm ho4, ho5, dpp, dnn⟩
    have hsv6 : Dp K H6 (.ref sv) (.tuple [.int at2, rowsD rws, rowsD sp]) := dp_o (K := K) hp bb6 _ _ hsv
    refine s_if (b := true) (et_is (et_test (ev_op (ev_var rfl) ev_c fun G _ Q' q' => ⟨rfl, q' G (Ex.refl G)⟩)) (by simp)) (fun _ H7 x7 => ?_) fun z => by cases z
    have S7 := S6.ex x7
    obtain ⟨dx7, hp7⟩ := S7.ob
    exact ⟨_, rfl, p, dx7, _, rfl, hp7, no_begin_with _ _ _ _ _ _, _, rfl, p, d, g, pp, nn, sv, life, at0, at2, [], [], _, rws, sp, rfl, S7, KD.nil, dp_same x7 _ _ hsv6, rl, hsp, fun kvs' H8 off hg8 S8 kd8 => q d g pp nn kvs' H8 n02 n03 (fun a o n h => off a o n (fun z => by rw [z, n02] at h; cases h) (fun z => by rw [z, n03] at h; cases h) (x7 a o (bb6 a o n h))) S8 kd8⟩
end
end K19
namespace K19
open PySem L2 PyProof.Rows Tc Evl
abbrev sNum : Stmt := topS 30
abbrev sKey : Stmt := topS 31
theorem scNum : FnScope ["thing"] ["thing"] (defScope sNum) := ⟨rfl, rfl, rfl, by decide +kernel, rfl, by decide +kernel, by decide +kernel⟩
theorem scKey : FnScope ["thing"] ["thing"] (defScope sKey) := ⟨rfl, rfl, rfl, by decide +kernel, rfl, by decide +kernel, by decide +kernel⟩
def spNum : Sp := fun vs H Q _ => ∃ k : Int, vs = [.int k] ∧ ∀ H', Ex H H' → Q (.bl true) H'
section
variable {P : Program} {w : World} {K : PySem.W.Frag} {mg : Str → Option Value} {base : Heap}
theorem ok_num {f : Addr} {fd : FuncData} {k : Nat} (F : Fun K "is_number" "is_number" sNum f fd) (N : Names mg) (Nb : mg "bool" = none) : FnOk P w K mg base CX0 (k + 1) f fd ["thing"] spNum := by
  refine F.ok scNum (fun vs H Q E h => ?_) (fun cdv A outer s H vs Q E hr h => ?_)
  · obtain ⟨kk, rfl, _⟩ := h
    rfl
  · obtain ⟨kk, rfl, q⟩ := h
    refine ⟨_, pss_one (ps_ret (pe_and (pe_callB call_isi (by rfl) N.isinstance boot_isinstance (pa_cons (pv 0) (pa_cons (pe_bltn (v := .ty "int") (by rfl) N.int boot_int rfl) pa_nil))) (pe_one (pe_not (pe_callB call_isi (by rfl) N.isinstance boot_isinstance (pa_cons (pv 0) (pa_cons (pe_bltn (v := .ty "bool") (by rfl) Nb boot_bool rfl) pa_nil))))))), ?_⟩
    exact s_ret (ev_andV (a := true) (b := true) (ev_int (K := K) (d := .int kk) (ev_var rfl) (.int kk)) fun _ => ev_notV (a := false) (ev_bool (K := K) (d := .int kk) (ev_var rfl) (.int kk))) q
theorem ok_key {f : Addr} {fd : FuncData} {kN k : Nat} (F : Fun K "is_key" "is_key" sKey f fd) (NK : ∃ t, mg "KEYS" = some (.int 1000 t)) (dN : Own P w K mg base "is_number" ["thing"] kN spNum) (hN : kN ≤ k) : FnOk P w K mg base CX0 (k + 1) f fd ["thing"] spKey := by
  refine F.ok scKey (fun vs H Q E h => ?_) (fun cdv A outer s H vs Q E hr h => ?_)
  · obtain ⟨kk, rfl, _⟩ := h
    rfl
  · obtain ⟨kk, rfl, hb, q⟩ := h
    obtain ⟨tk, hK⟩ := NK
    refine ⟨_, pss_one (ps_ret (pe_and (pe_own dN hr hN (by rfl) (pa_cons (pv 0) pa_nil)) (pe_one (pe_chain op_le op_lt pe_int (pv 0) (pe_glob (v := .int 1000) (by rfl) hK ⟨_, rfl⟩))))), ?_⟩
    refine s_ret (ev_is (v := .bl (true && (decide ((0 : Int) ≤ kk) && decide (kk < 1000)))) (ev_andV (a := true) (fun G x Q' q' => ⟨.int kk, rfl, kk, rfl, fun G2 x2 => q' G2 x2⟩) fun _ => ev_chain (p := fun i j => decide (i ≤ j)) (p' := fun i j => decide (i < j)) ev_c (ev_var rfl) ev_c) ?_) q
    rw [decide_eq_true hb.1, decide_eq_true hb.2]
    rfl
end
/-! stretches and the keys in them -/
def inSp (sp : List (Int × Int)) (k : Int) : Prop := ∃ r ∈ sp, r.1 ≤ k ∧ k < r.2
theorem stp_in {acc : List (Int × Int)} {j : Int} (h : ∀ r ∈ acc, r.1 < r.2) : (∀ r ∈ stp acc j, r.1 < r.2) ∧ ∀ k, inSp (stp acc j) k ↔ inSp acc k ∨ k = j := by
  have new : (∀ r ∈ acc ++ [(j, j + 1)], r.1 < r.2) ∧ ∀ k, inSp (acc ++ [(j, j + 1)]) k ↔ inSp acc k ∨ k = j := by
    refine ⟨fun r m => ?_, fun k => ⟨fun ⟨r, m, e⟩ => ?_, fun z => ?_⟩⟩
    · rcases List.mem_append.mp m with m | m
      · exact h r m
      · rw [List.mem_singleton.mp m]
        show j < j + 1
        omega
    · rcases List.mem_append.mp m with m | m
      · exact .inl ⟨r, m, e⟩
      · rw [List.mem_singleton.mp m] at e
        dsimp only at e
        exact .inr (by omega)
    · rcases z with ⟨r, m, e⟩ | z
      · exact ⟨r, List.mem_append_left _ m, e⟩
      · exact ⟨(j, j + 1), List.mem_append_right _ (List.mem_singleton_self _), by dsimp only; omega⟩
  rcases List.eq_nil_or_concat acc with e | ⟨init, r, e⟩
  · subst e
    exact new
  · rw [List.concat_eq_append] at e
    subst e
    have gl : (init ++ [r]).getLast? = some r := by simp
    unfold stp
    rw [gl]
    dsimp only
    by_cases c : r.2 = j
    · rw [if_pos c, List.dropLast_concat]
      have hr := h r (List.mem_append_right _ (List.mem_singleton_self _))
      refine ⟨fun s m => ?_, fun k => ⟨fun ⟨s, m, e⟩ => ?_, fun z => ?_⟩⟩
      · rcases List.mem_append.mp m with m | m
        · exact h s (List.mem_append_left _ m)
        · rw [List.mem_singleton.mp m]
          show r.1 < j + 1
          omega
      · rcases List.mem_append.mp m with m | m
        · exact .inl ⟨s, List.mem_append_left _ m, e⟩
        · rw [List.mem_singleton.mp m] at e
          dsimp only at e
          by_cases ek : k = j
          · exact .inr ek
          · exact .inl ⟨r, List.mem_append_right _ (List.mem_singleton_self _), by omega⟩
      · rcases z with ⟨s, m, e⟩ | z
        · rcases List.mem_append.mp m with m | m
          · exact ⟨s, List.mem_append_left _ m, e⟩
          · rw [List.mem_singleton.mp m] at e
            exact ⟨(r.1, j + 1), List.mem_append_right _ (List.mem_singleton_self _), by dsimp only; omega⟩
        · exact ⟨(r.1, j + 1), List.mem_append_right _ (List.mem_singleton_self _), by dsimp only; omega⟩
    · rw [if_neg c]
      exact new
/-- the stretches of keys hold just these keys -/
theorem spans_in (ks : List Int) : (∀ r ∈ spansF ks, r.1 < r.2) ∧ ∀ k, inSp (spansF ks) k ↔ k ∈ ks := by
  have g : ∀ (ks : List Int) (acc : List (Int × Int)), (∀ r ∈ acc, r.1 < r.2) → (∀ r ∈ ks.foldl stp acc, r.1 < r.2) ∧ ∀ k, inSp (ks.foldl stp acc) k ↔ inSp acc k ∨ k ∈ ks := by
    intro ks
    induction ks with
    | nil => exact fun acc h => ⟨h, fun k => ⟨.inl, fun z => z.elim id fun m => by cases m⟩⟩
    | cons j ks ih =>
      intro acc h
      obtain ⟨h1, h2⟩ := stp_in (j := j) h
      obtain ⟨g1, g2⟩ := ih _ h1
      refine ⟨g1, fun k => (g2 k).trans ?_⟩
      rw [h2 k, List.mem_cons, or_assoc]
  obtain ⟨g1, g2⟩ := g ks [] fun r m => by cases m
  exact ⟨g1, fun k => (g2 k).trans ⟨fun z => z.elim (fun ⟨r, m, _⟩ => by cases m) id, .inr⟩⟩
/-- what is known behind what was saved -/
theorem learnS_is (rws : List (Int × Int)) : ∀ (sp : List (Int × Int)) (f : Kn), (∀ k, f k = none ∨ f k = some (fRows rws k)) → ∀ k, (inSp sp k ∨ f k ≠ none → learnS f sp rws k = some (fRows rws k)) ∧ (¬ inSp sp k → f k = none → learnS f sp rws k = none)
  | [], f, hf, k => ⟨fun z => by
      show f k = _
      rcases z with ⟨r, m, _⟩ | z
      · cases m
      · exact (hf k).resolve_left z, fun _ z => z⟩
  | r :: sp, f, hf, k => by
    have hf' : ∀ j, learnP f r.1 r.2 rws j = none ∨ learnP f r.1 r.2 rws j = some (fRows rws j) := fun j => by
      unfold learnP
      split
      · exact .inr rfl
      · exact hf j
    obtain ⟨g1, g2⟩ := learnS_is rws sp _ hf' k
    refine ⟨fun z => g1 ?_, fun z1 z2 => g2 (fun ⟨s, m, e⟩ => z1 ⟨s, List.mem_cons_of_mem _ m, e⟩) ?_⟩
    · rcases z with ⟨s, m, e⟩ | z
      · rcases List.mem_cons.mp m with m | m
        · subst m
          refine .inr ?_
          unfold learnP
          by_cases c : f k = none
          · rw [if_pos ⟨e.1, e.2, c⟩]
            exact fun y => by cases y
          · rw [if_neg fun y => c y.2.2]
            exact c
        · exact .inl ⟨s, m, e⟩
      · refine .inr ?_
        unfold learnP
        rw [if_neg fun y => z y.2.2]
        exact z
    · unfold learnP
      rw [if_neg fun y => z1 ⟨r, List.mem_cons_self, y.1, y.2.1⟩]
      exact z2
end K19
namespace K19
open PySem L2 PyProof.Rows Tc Evl
abbrev sSv : Stmt := topS 53
theorem scSv : FnScope ["bag", "keys", "known", "turn", "first", "last", "key", "rows", "pair"] ["bag", "keys"] (defScope sSv) := ⟨rfl, rfl, rfl, by decide +kernel, rfl, by decide +kernel, by decide +kernel⟩
/-- a filter by places -/
theorem filter_places {α : Type} (L : List α) (d : α) (P : α → Bool) : ((List.range L.length).filter fun i => P (L.getD i d)).map (fun i => L.getD i d) = L.filter P := by
  have e : (List.range L.length).map (fun i => L.getD i d) = L := by
    refine List.ext_getElem? fun i => ?_
    rw [List.getElem?_map]
    by_cases h : i < L.length
    · rw [List.getElem?_range h, List.getElem?_eq_getElem h]
      show some (L.getD i d) = _
      rw [List.getD_eq_getElem?_getD, List.getElem?_eq_getElem h, Option.getD_some]
    · rw [List.getElem?_eq_none (by rw [List.length_range]; omega), List.getElem?_eq_none (by omega)]
      rfl
  conv => rhs; rw [← e]
  rw [List.filter_map]
  rfl
theorem dps_given {K : PySem.W.Frag} {H : Hp} {α : Type} {xs : List V} {l : List α} {dd : α → PyData} (d0 : α) (P : α → Bool) (h : DpAll K H xs (l.map dd)) : DpAll K H (given xs.length (fun i => P (l.getD i d0)) fun i => xs.getD i .non) ((l.filter P).map dd) := by
  have hl : xs.length = l.length := by rw [dps_len h, List.length_map]
  rw [← filter_places l d0 P, hl]
  unfold given
  have gen : ∀ is : List Nat, (∀ i ∈ is, i < l.length) → DpAll K H (is.map fun i => xs.getD i .non) ((is.map fun i => l.getD i d0).map dd) := by
    intro is
    induction is with
    | nil => exact fun _ => .nil
    | cons i is ih =>
      intro hi
      have lt := hi i List.mem_cons_self
      have ltx : i < xs.length := by omega
      obtain ⟨d, hd, hx⟩ := dps_at h (List.getElem?_eq_getElem ltx)
      rw [List.getElem?_map, List.getElem?_eq_getElem lt] at hd
      cases hd
      refine .cons ?_ (ih fun j m => hi j (List.mem_cons_of_mem _ m))
      show Dp K H (xs.getD i .non) (dd (l.getD i d0))
      rw [List.getD_eq_getElem?_getD, List.getD_eq_getElem?_getD, List.getElem?_eq_getElem ltx, List.getElem?_eq_getElem lt]
      exact hx
  exact gen _ fun i m => List.mem_range.mp (List.mem_filter.mp m).1
theorem MI.keysL {kvs : List (Key × V)} {S : Int → Prop} (h : MI allK kvs S) : ∃ ks : List Int, kvs.map (·.1) = ks.map Sum.inl ∧ ks.length ≤ 1000 := by
  obtain ⟨ks, hks⟩ : ∃ ks : List Int, kvs.map (·.1) = ks.map Sum.inl := by
    have hi := h.inn
    clear h
    induction kvs with
    | nil => exact ⟨[], rfl⟩
    | cons p kvs ih =>
      obtain ⟨ks, e⟩ := ih fun q m => hi q (List.mem_cons_of_mem _ m)
      obtain ⟨k, _, e'⟩ := hi p List.mem_cons_self
      exact ⟨k :: ks, by rw [List.map_cons, List.map_cons, e, e']⟩
  refine ⟨ks, hks, ?_⟩
  have := h.len
  rw [← List.length_map (f := (·.1)), hks, List.length_map] at this
  simpa using this
theorem rowsA {K : PySem.W.Frag} {te : TE} {xs : List V} {H : Hp} {σ : L2.St} {Dn : Ends} (h : EvL te σ H xs) (k : ∀ (pT : Addr) (H' : Hp), Ex H H' → PT H' pT xs → H pT = none → Dn.nx (σ.set 7 (some (.ref pT))) H') : tAsg (tCB (rTupP K) (tCons te tNil)) (gName 7) Dn σ H :=
  h H (Ex.refl H) _ fun pL G3 npL x3 hpL => ⟨pL, _, rfl, sq_of hpL, fun pT oT hpT odT => k pT _ (x3.trans (Ex.new hpT)) ⟨oT, upd_same, odT⟩ (fresh_back x3 hpT)⟩

/-- what was saved, its rows and stretches tuples without a dict -/
def SvAt (K : PySem.W.Frag) (H : Hp) (sv : Addr) (at2 : Int) (rws sp : List (Int × Int)) : Prop := ∃ pT pS, SqT K H sv [.int at2, .ref pT, .ref pS] ∧ TP K H pT rws ∧ TP K H pS sp
theorem SvAt.dp {K : PySem.W.Frag} {H : Hp} {sv : Addr} {at2 : Int} {rws sp : List (Int × Int)} (h : SvAt K H sv at2 rws sp) : Dp K H (.ref sv) (.tuple [.int at2, rowsD rws, rowsD sp]) := by
  obtain ⟨pT, pS, h1, h2, h3⟩ := h
  exact .tup h1 (.cons (.int _) (.cons h2.dp (.cons h3.dp .nil)))
def spSv (K : PySem.W.Frag) : Sp := fun vs H Q _ => ∃ (b lk : Addr) (ks : List Int), vs = [.ref b, .ref lk] ∧ Bag H b ∧ KeysAt b H lk ks ∧ ks.length ≤ 1000 ∧
  ∀ (sv : Addr) (at2 : Int) (rws sp : List (Int × Int)) (H' : Hp), Tc.Fr b H H' → H sv = none → SvAt K H' sv at2 rws sp → 0 ≤ at2 → at2 < 50 → (∀ r ∈ rws, r.1 ∈ ks ∧ inSp sp r.1) → rws.length ≤ 5000 → spansIn sp → Q (.ref sv) H'
section
variable {P : Program} {w : World} {K : PySem.W.Frag} {mg : Str → Option Value} {base : Heap}
set_option maxHeartbeats 2000000 in
theorem ok_sv {f : Addr} {fd : FuncData} {kT kSt kTb kSp k : Nat} (F : Fun K "_law_saved" "_law_saved" sSv f fd) (N : Names mg) (dT : Own P w K mg base "_law_take" ["bag", "many"] kT spTake) (hT : kT ≤ k) (dSt : Own P w K mg base "_law_stretch" ["bag", "keys"] kSt (spStr K)) (hSt : kSt ≤ k) (dTb : Own P w K mg base "_law_table" ["bag", "keys"] kTb (spTabP K)) (hTb : kTb ≤ k) (dSp : Own P w K mg base "_law_spans" ["keys"] kSp (spSpans K)) (hSp : kSp ≤ k) :
    FnOk P w K mg base CX0 (k + 1) f fd ["bag", "keys"] (spSv K) := by
  refine F.ok scSv (fun vs H Q E h => ?_) (fun cdv A outer s H vs Q E hr h => ?_)
  · obtain ⟨b, lk, ks, rfl, _⟩ := h
    rfl
  · obtain ⟨b, lk, ks, rfl, hB, hK, h64, q⟩ := h
    refine ⟨_, (pss_cons (ps_set (i := 2) scSv.nd rfl (.inr rfl) pe_dnewK)
      (pss_cons (ps_for PassesOwn.never rfl (pi_range1 rfl N.range (pa_cons (pe_own dT hr hT (by rfl) (pa_cons (pv 0) (pa_cons pe_int pa_nil))) pa_nil)) (pg_name (i := 3) scSv.nd rfl (.inl rfl)) (pss_cons (ps_asg (pe_own dSt hr hSt (by rfl) (pa_cons (pv 0) (pa_cons (pv 1) pa_nil))) (pg_tup rfl (pgs_cons (pg_name (i := 4) scSv.nd rfl (.inl rfl)) (pgs_cons (pg_name (i := 5) scSv.nd rfl (.inl rfl)) pgs_nil)))) (pss_one (ps_for PassesOwn.never rfl (pi_range2 rfl N.range (pa_cons (pv 4) (pa_cons (pv 5) pa_nil))) (pg_name (i := 6) scSv.nd rfl (.inl rfl)) (pss_one (ps_dput (hu_of hr) (pv 2) (pv 6) pe_bl rfl))))))
      (pss_cons (ps_set (i := 7) scSv.nd rfl (.inl rfl) (pe_callTy cr_tupP (by rfl) N.tuple boot_tuple (pa_cons (pe_lc (own := [("pair", 8)]) (g := gName 8) (tt := tTest (tDIn (tOp (rIxT K) (tVar 8) (tC (.int 0))) (tVar 2))) (te := tVar 8) rfl scSv.nd (pi_tup (pe_own dTb hr hTb (by rfl) (pa_cons (pv 0) (pa_cons (pv 1) pa_nil)))) (blkOk_by (N := ["bag", "keys", "known", "turn", "first", "last", "key", "rows", "pair"]) (sc := defScope sSv) (by decide +kernel)) (fun _ _ _ _ _ => pg_name (i := 8) scSv.nd rfl (Or.inl rfl)) (fun _ _ _ _ _ => (pts_one (pt_cmp (pc_din (hu_of hr) (pe_ix ix_tup (pv 8) pe_int (fun _ _ => rfl)) (pv 2))))) (fun _ _ _ _ _ => (pv 8))) pa_nil)))
      (pss_one (ps_ret (pe_tup (pa_cons (pe_own dT hr hT (by rfl) (pa_cons (pv 0) (pa_cons pe_int pa_nil))) (pa_cons (pv 7) (pa_cons (pe_own dSp hr hSp (by rfl) (pa_cons (pv 2) pa_nil)) pa_nil))))))))), ?_⟩
    refine s_seq fun D hD => g_name ?_
    dsimp only
    have x1 : Ex H (upd H D (.dK [])) := Ex.new hD
    have hD1 : (upd H D (.dK [])) D = some (.dK []) := upd_same
    generalize hH1 : upd H D (.dK []) = H1 at x1 hD1
    have f1 : Tc.Fr b H H1 := Fr.ex hB x1
    have Db : D ≠ b := hB.ne hD
    refine s_seq (take_of (b := b) (m := 4) f1.bag (ea_cons (ev_var rfl) (ea_cons ev_c ea_nil)) (by decide) (by decide) fun n H2 f12 n0 n4 => ?_)
    obtain ⟨nn, rfl⟩ : ∃ nn : Nat, n = (nn : Int) := ⟨n.toNat, by omega⟩
    refine ⟨(nn : Int), rfl, by omega, by omega, ?_⟩
    refine for_range (lo := 0) (n := nn) (fun i σ' H' => ∃ y3 y4 y5 y6 kvs S, σ' = [some (.ref b), some (.ref lk), some (.ref D), y3, y4, y5, y6, none, none] ∧ Tc.Fr b H H' ∧ H' D = some (.dK kvs) ∧ MI allK kvs S) ⟨none, none, none, none, [], _, rfl, f1.trans f12, f12.at hD1 Db, MI.nil⟩ (fun i σ' H' hi p => ?_) (fun σ' H' p => ?_)
    · obtain ⟨y3, y4, y5, y6, kvs, S, rfl, fr, hDk, mi⟩ := p
      refine g_name ?_
      dsimp only
      refine s_seq ⟨.ref b, rfl, .ref lk, rfl, b, lk, ks, rfl, fr.bag, hK.fr fr, fun x y sp G1 g1 nsp spb hsp x0 x1' xy y1 => ⟨sp, _, rfl, st_of hsp, rfl, _, _, rfl, _, _, rfl, rfl, ?_⟩⟩
      dsimp only
      have hDg := g1.at hDk Db
      refine s_forR2 (lo := x) (n := y) (ea_cons (ev_var rfl) (ea_cons (ev_var rfl) ea_nil)) ⟨by omega, by omega, by omega, by omega⟩ (fun j σ2 G => ∃ z6 kvs2 S2, σ2 = [some (.ref b), some (.ref lk), some (.ref D), some (.int ((0 : Int) + (i : Int))), some (.int x), some (.int y), z6, none, none] ∧ Tc.Fr b H G ∧ G D = some (.dK kvs2) ∧ MI allK kvs2 S2) (fun G xg => ⟨y6, kvs, S, rfl, (fr.trans g1).trans (Fr.ex g1.bag xg), xg _ _ hDg, mi⟩) (fun j σ2 G hj p => ?_) (fun σ2 G p => ?_)
      · obtain ⟨z6, kvs2, S2, rfl, fg, hD2, mi2⟩ := p
        dsimp only
        refine ⟨.ref D, rfl, .int (x + (j : Int)), rfl, D, _, rfl, DPut.k (k := .inl (x + (j : Int))) hD2 (sz_lt (by have := mi2.len; simp at this; omega)), ?_⟩
        exact ⟨_, _, _, rfl, Fr.mut fg hD Db, upd_same, mi2.put (mem_allK ⟨by omega, by omega⟩)⟩
      · obtain ⟨z6, kvs2, S2, rfl, fg, hD2, mi2⟩ := p
        exact ⟨_, _, _, _, kvs2, S2, rfl, fg, hD2, mi2⟩
    · obtain ⟨y3, y4, y5, y6, kvs, S, rfl, fr, hDk, mi⟩ := p
      refine s_seq ⟨.ref b, rfl, .ref lk, rfl, b, lk, ks, rfl, fr.bag, hK.fr fr, fun pt rs G1 g1 tp1 hrs hws hl => ?_⟩
      have fr1 := fr.trans g1
      have hDg := g1.at hDk Db
      obtain ⟨xs, px, dxs⟩ := id tp1
      have hxl : xs.length = rs.length := by rw [dps_len dxs, List.length_map]
      have lcR : EvL (tLc (iTup K (tC (.ref pt))) (gName 8) (tTest (tDIn (tOp (rIxT K) (tVar 8) (tC (.int 0))) (tVar 2))) (tVar 8) [8]) [some (.ref b), some (.ref lk), some (.ref D), y3, y4, y5, y6, none, none] G1 (given xs.length (fun j => (valV kvs (.inl (rs.getD j (0, 0)).1)).isSome) fun j => xs.getD j .non) := by
        refine el_lcT (K := K) (a := pt) (xs := xs) _ _ ev_c px.st (by omega) (fun z => rfl) (fun j u G xg hj => ?_) (fun j u G xg hj _ => ev_is (ev_var rfl) (by rw [List.getD_eq_getElem?_getD, hj]; rfl))
        obtain ⟨d, hd, hu⟩ := dps_at (dps_same xg _ _ dxs) hj
        rw [List.getElem?_map] at hd
        obtain ⟨row, hrow, rfl⟩ := Option.map_eq_some_iff.mp hd
        have eg : rs.getD j (0, 0) = row := by rw [List.getD_eq_getElem?_getD, hrow]; rfl
        rw [eg]
        obtain ⟨pa, u0, u1, rfl, hpa, h0, h1⟩ := dpt2 hu
        cases h0
        intro G3 x3 Q' q'
        exact ev_ix0 (ev_var rfl) (Evl.ex_t x3 hpa) G3 (Ex.refl G3) _ fun G4 x4 => ⟨.ref D, rfl, D, _, rfl, DGet.k (k := .inl row.1) (x4 _ _ (x3 _ _ (xg _ _ hDg))), _, rfl, q' G4 x4⟩
      refine rowsA (K := K) lcR fun pT G2 x2 ptT npT => ?_
      dsimp only
      have tpT : TP K G2 pT (rs.filter fun r => (valV kvs (.inl r.1)).isSome) := ⟨_, ptT, dps_given (0, 0) (fun r => (valV kvs (.inl r.1)).isSome) (dps_same x2 _ _ dxs)⟩
      have f2 : Tc.Fr b H G2 := fr1.trans (Fr.ex fr1.bag x2)
      have hD2 := x2 _ _ hDg
      refine take_of (b := b) (m := 50) f2.bag (ea_cons (ev_var rfl) (ea_cons ev_c ea_nil)) (by decide) (by decide) fun at2 G3 f3 a0 a1 => ⟨.ref pT, rfl, ?_⟩
      obtain ⟨ks', hks', kl'⟩ := mi.keysL
      have hD3 := f3.at hD2 Db
      obtain ⟨bs2, hb2⟩ := f2.bag.lst
      have tp3 := tpT.bar hb2 f3.bar
      refine ⟨.ref D, rfl, D, kvs, ks', rfl, hD3, hks', kl', fun pS ms G4 npS x4 pm pw tpS => ⟨sz_of (by simp), fun t ht => ?_⟩⟩
      have f4 : Tc.Fr b H G4 := (f2.trans f3).trans (Fr.ex (f2.trans f3).bag x4)
      have mem : ∀ k, k ∈ ms ↔ (valV kvs (.inl k)).isSome = true := fun k => by
        rw [pm.mem_iff, ← valV_memI, hks', List.mem_map]
        exact ⟨fun m => ⟨k, m, rfl⟩, fun ⟨j, m, e⟩ => (Sum.inl.inj e) ▸ m⟩
      have bd : ∀ k ∈ ms, 0 ≤ k ∧ k < 1000 := fun k m => by
        obtain ⟨p, hp, e⟩ := List.mem_map.mp (valV_memI.mpr ((mem k).mp m))
        obtain ⟨j, hj, e'⟩ := mi.inn p hp
        obtain ⟨n, hn, e2⟩ := List.mem_map.mp hj
        have h1 := List.mem_range.mp hn
        have e3 : ((n : Nat) : Int) = j := e2
        have e4 : k = j := Sum.inl.inj (e.symm.trans e')
        omega
      obtain ⟨s1, s2⟩ := spans_in ms
      have few : (rs.filter fun r => (valV kvs (.inl r.1)).isSome).length ≤ rs.length := List.length_filter_le _ _
      refine q t at2 _ _ _ (f4.trans (Fr.new f4.bag ht)) (f4.free hB ht) ⟨pT, pS, st_of upd_same, tp3.same (x4.trans (Ex.new ht)), tpS.same (Ex.new ht)⟩ a0 a1 (fun r mr => ?_) (by omega) (fun r mr => ?_)
      · obtain ⟨m1, m2⟩ := List.mem_filter.mp mr
        exact ⟨hrs r m1, (s2 r.1).mpr ((mem r.1).mpr m2)⟩
      · have lt := s1 r mr
        have h1 := bd r.1 ((s2 r.1).mp ⟨r, mr, by omega, by omega⟩)
        have h2 := bd (r.2 - 1) ((s2 (r.2 - 1)).mp ⟨r, mr, by omega, by omega⟩)
        exact ⟨h1.1, by omega, by omega⟩
end
end K19
namespace K19
open PySem L2 PyProof.Rows Tc Evl
abbrev sTn : Stmt := topS 51
theorem scTn : FnScope ["life", "sav1", "known", "first", "last", "key", "found"] ["life", "sav1"] (defScope sTn) := ⟨rfl, rfl, rfl, by decide +kernel, rfl, by decide +kernel, by decide +kernel⟩
/-- the dict that is kept beside a taker -/
def okL (life at' : Int) (rd kn pc ev ot : Addr) : List (Key × V) := [(.inr "life", .int life), (.inr "place", .int at'), (.inr "rows", .ref rd), (.inr "known", .ref kn), (.inr "pieces", .ref pc), (.inr "ever", .ref ev), (.inr "out", .ref ot)]
section
variable (life at' : Int) (rd kn pc ev ot : Addr)
theorem okL_made : mergeK (mergeK [] [(.inr "life", .int life), (.inr "place", .int at'), (.inr "rows", .ref rd), (.inr "known", .ref kn)]) (mergeK [] [(.inr "pieces", .ref pc), (.inr "ever", .ref ev), (.inr "out", .ref ot)]) = okL life at' rd kn pc ev ot := by
  rfl
theorem okL_put (z : Int) : putK (okL life at' rd kn pc ev ot) (.inr "place") (.int z) = okL life z rd kn pc ev ot := by
  rfl
theorem okv_life : valV (okL life at' rd kn pc ev ot) (.inr "life") = some (.int life) := rfl
theorem okv_place : valV (okL life at' rd kn pc ev ot) (.inr "place") = some (.int at') := rfl
theorem okv_rows : valV (okL life at' rd kn pc ev ot) (.inr "rows") = some (.ref rd) := rfl
theorem okv_known : valV (okL life at' rd kn pc ev ot) (.inr "known") = some (.ref kn) := rfl
theorem okv_pieces : valV (okL life at' rd kn pc ev ot) (.inr "pieces") = some (.ref pc) := rfl
theorem okv_out : valV (okL life at' rd kn pc ev ot) (.inr "out") = some (.ref ot) := rfl
end
structure OwAt (H : Hp) (o rd kn pc ev ot : Addr) (life at' : Int) (rkv kkv : List (Key × V)) (ov : List V) : Prop where
  ob : H o = some (.dK (okL life at' rd kn pc ev ot))
  hr : H rd = some (.dK rkv)
  hk : H kn = some (.dK kkv)
  hp : H pc = some (.dK [])
  ho : H ot = some (.lst ov)
  n1 : o ≠ rd
  n2 : o ≠ kn
  n3 : o ≠ pc
  n4 : rd ≠ kn
  n5 : rd ≠ pc
  n6 : kn ≠ pc
def spTn (K : PySem.W.Frag) : Sp := fun vs H Q _ => ∃ (sv : Addr) (life at2 : Int) (rws sp : List (Int × Int)) (ks : List Int), vs = [.int life, .ref sv] ∧ SvAt K H sv at2 rws sp ∧ (∀ r ∈ rws, r.1 ∈ ks) ∧ spansIn sp ∧
  ∀ o rd kn pc ev ot rkv kkv H', Ex H H' → H o = none → H rd = none → H kn = none → H pc = none → H ot = none → OwAt H' o rd kn pc ev ot life at2 rkv kkv [] → DI ks rkv (fRows rws) → MI allK kkv (inSp sp) → Q (.ref o) H'
theorem dict_di {K : PySem.W.Frag} {H : Hp} {p : Addr} {rs : List (Int × Int)} {ks : List Int} {Q : VK} (h : TP K H p rs) (hk : ∀ r ∈ rs, r.1 ∈ ks) (q : ∀ D kvs, H D = none → DI ks kvs (fRows rs) → Q (.ref D) (upd H D (.dK kvs))) : rDictT K [.ref p] H Q := by
  obtain ⟨xs, hp, hA⟩ := h
  obtain ⟨ps, rfl, hP⟩ := pairs_dp hA
  exact ⟨p, ps, _, rfl, hp, hP, fun D hD => q D _ hD (merge_rows rs [] (fun _ => none) hk DI.nil)⟩
theorem inSp_snoc {sp : List (Int × Int)} {r : Int × Int} {k : Int} : inSp (sp ++ [r]) k ↔ inSp sp k ∨ (r.1 ≤ k ∧ k < r.2) := by
  constructor
  · rintro ⟨s, m, e⟩
    rcases List.mem_append.mp m with m | m
    · exact .inl ⟨s, m, e⟩
    · rw [List.mem_singleton.mp m] at e
      exact .inr e
  · rintro (⟨s, m, e⟩ | e)
    · exact ⟨s, List.mem_append_left _ m, e⟩
    · exact ⟨r, List.mem_append_right _ (List.mem_singleton_self _), e⟩
section
variable {P : Program} {w : World} {K : PySem.W.Frag} {mg : Str → Option Value} {base : Heap}
set_option maxHeartbeats 2000000 in
theorem ok_tn {f : Addr} {fd : FuncData} {k : Nat} (F : Fun K "_law_taker_new" "_law_taker_new" sTn f fd) (N : Names mg) : FnOk P w K mg base CX0 (k + 1) f fd ["life", "sav1"] (spTn K) := by
  refine F.ok scTn (fun vs H Q E h => ?_) (fun cdv A outer s H vs Q E hr h => ?_)
  · obtain ⟨sv, life, at2, rws, sp, ks, rfl, _⟩ := h
    rfl
  · obtain ⟨sv, life, at2, rws, sp, ks, rfl, ⟨pT, pS, hsv, tpT, tpS⟩, hks, hsp, q⟩ := h
    refine ⟨_, (pss_cons (ps_set (i := 2) scTn.nd rfl (.inl rfl) pe_dnewK)
      (pss_cons (ps_for PassesOwn.never rfl (pi_tup (pe_ix ix_tup (pv 1) pe_int (fun _ _ => rfl))) (pg_tup rfl (pgs_cons (pg_name (i := 3) scTn.nd rfl (.inl rfl)) (pgs_cons (pg_name (i := 4) scTn.nd rfl (.inl rfl)) pgs_nil))) (pss_one (ps_for PassesOwn.never rfl (pi_range2 rfl N.range (pa_cons (pv 3) (pa_cons (pv 4) pa_nil))) (pg_name (i := 5) scTn.nd rfl (.inl rfl)) (pss_one (ps_dput (hu_of hr) (pv 2) (pv 5) pe_bl rfl)))))
      (pss_cons (ps_set (i := 6) scTn.nd rfl (.inl rfl) (pe_disp (pps_cons pe_str (pv 0) (pps_cons pe_str (pe_ix ix_tup (pv 1) pe_int (fun _ _ => rfl)) (pps_cons pe_str (pe_callTy (cr_dictT rfl) (by rfl) N.dict boot_dict (pa_cons (pe_ix ix_tup (pv 1) pe_int (fun _ _ => rfl)) pa_nil)) (pps_cons pe_str (pv 2) pps_nil)))) (by rfl) (by rfl) (fun z => by cases z) (by decide)))
      (pss_cons (ps_expr (pe_bm PySem.F.plainAttrs_dict PySem.F.slot_dict_update PySem.F.type_dict_update mt_dupd (pv 6) (pa_cons (pe_disp (pps_cons pe_str pe_dnewK (pps_cons pe_str (pe_lst pa_nil) (pps_cons pe_str (pe_lst pa_nil) pps_nil))) (by rfl) (by rfl) (fun z => by cases z) (by decide)) pa_nil)))
      (pss_one (ps_ret (pv 6))))))), ?_⟩
    refine s_seq fun kn hkn => g_name ?_
    dsimp only
    have x1 : Ex H (upd H kn (.dK [])) := Ex.new hkn
    have hk1 : (upd H kn (.dK [])) kn = some (.dK []) := upd_same
    generalize hH1 : upd H kn (.dK []) = H1 at x1 hk1
    obtain ⟨xs, pxs, dxs⟩ := id tpS
    have xl : xs.length = sp.length := by rw [dps_len dxs, List.length_map]
    refine s_seq (s_forT (K := K) (a := pS) (xs := xs) (ev_ix2 (ev_var rfl) (Evl.ex_t x1 hsv)) (Evl.ex_t x1 pxs.st) (fun j σ' G => ∃ y3 y4 y5 kkv, σ' = [some (.int life), some (.ref sv), some (.ref kn), y3, y4, y5, none] ∧ Bar kn H1 G ∧ G kn = some (.dK kkv) ∧ MI allK kkv (inSp (sp.take j))) (fun G x => ⟨none, none, none, [], rfl, Bar.ex x, x _ _ hk1, MI.nil.iff fun k => ⟨fun z => z.elim, fun ⟨_, m, _⟩ => by cases m⟩⟩) (fun j σ' G _ ⟨_, _, _, _, _, b, _⟩ => bar_t hk1 b (Evl.ex_t x1 pxs.st)) (fun j x σ' G hx p' => ?_) (fun σ' G p' => ?_))
    · obtain ⟨y3, y4, y5, kkv, rfl, b, hkG, mi⟩ := p'
      obtain ⟨dd, hdd, hxd⟩ := dps_at (dps_bar hk1 b _ _ (dps_same x1 _ _ dxs)) hx
      rw [List.getElem?_map] at hdd
      obtain ⟨r, hr', rfl⟩ := Option.map_eq_some_iff.mp hdd
      obtain ⟨pa, v0, v1, rfl, hpa, e0, e1⟩ := dpt2 hxd
      cases e0
      cases e1
      obtain ⟨r1, r2, r3⟩ := hsp r (List.mem_of_getElem? hr')
      refine ⟨pa, _, rfl, hpa, rfl, _, _, rfl, _, _, rfl, rfl, ?_⟩
      dsimp only
      refine s_forR2 (lo := r.1) (n := r.2) (ea_cons (ev_var rfl) (ea_cons (ev_var rfl) ea_nil)) ⟨by omega, by omega, by omega, by omega⟩ (fun i σ2 G2 => ∃ z5 kkv2, σ2 = [some (.int life), some (.ref sv), some (.ref kn), some (.int r.1), some (.int r.2), z5, none] ∧ Bar kn H1 G2 ∧ G2 kn = some (.dK kkv2) ∧ MI allK kkv2 (fun k => inSp (sp.take j) k ∨ (r.1 ≤ k ∧ k < r.1 + (i : Int)))) (fun G2 xg => ⟨y5, kkv, rfl, b.trans (Bar.ex xg), xg _ _ hkG, mi.iff fun k => ⟨.inl, fun z => z.elim id fun y => by omega⟩⟩) (fun i σ2 G2 hi p => ?_) (fun σ2 G2 p => ?_)
      · obtain ⟨z5, kkv2, rfl, b2, hk2, mi2⟩ := p
        dsimp only
        refine ⟨.ref kn, rfl, .int (r.1 + (i : Int)), rfl, kn, _, rfl, DPut.k (k := .inl (r.1 + (i : Int))) hk2 (sz_lt (by have := mi2.len; simp at this; omega)), ?_⟩
        refine ⟨_, _, rfl, b2.put, upd_same, (mi2.put (mem_allK ⟨by omega, by omega⟩)).iff fun k => ?_⟩
        rw [or_assoc]
        refine or_congr Iff.rfl ?_
        constructor
        · rintro (z | z) <;> omega
        · intro z
          omega
      · obtain ⟨z5, kkv2, rfl, b2, hk2, mi2⟩ := p
        refine ⟨_, _, _, kkv2, rfl, b2, hk2, mi2.iff fun k => ?_⟩
        rw [take_rows sp hr', inSp_snoc]
        refine or_congr Iff.rfl ?_
        constructor
        · intro z
          omega
        · intro z
          omega
    · obtain ⟨y3, y4, y5, kkv, rfl, b, hkG, mi⟩ := p'
      rw [xl, List.take_length] at mi
      have xG : Ex H G := b.exOf x1 hkn
      refine s_seq (fun o ho => ?_)
      have xo : Ex G (upd G o (.dK [])) := Ex.new ho
      have ho1 : (upd G o (.dK [])) o = some (.dK []) := upd_same
      generalize hG1 : upd G o (.dK []) = G1 at xo ho1
      have xG1 := xG.trans xo
      refine ⟨_, rfl, ?_⟩
      refine ev_ix0 (ev_var rfl) (Evl.ex_t xG1 hsv) G1 (Ex.refl G1) _ fun G2 x2 => ?_
      refine (ev_ix1 (ev_var rfl) (Evl.ex_t (xG1.trans x2) hsv)) G2 (Ex.refl G2) _ fun G3 x3 => ?_
      unfold tNil
      have xG3 := (xG1.trans x2).trans x3
      refine dict_di (K := K) (tpT.same xG3) hks fun rd rkv hrd di => ?_
      have xrd : Ex G3 (upd G3 rd (.dK rkv)) := Ex.new hrd
      have hrd1 : (upd G3 rd (.dK rkv)) rd = some (.dK rkv) := upd_same
      generalize hG4 : upd G3 rd (.dK rkv) = G4 at xrd hrd1
      have x14 := (x2.trans x3).trans xrd
      refine ⟨_, rfl, x14 _ _ ho1, [(.inr "life", .int life), (.inr "place", .int at2), (.inr "rows", .ref rd), (.inr "known", .ref kn)], rfl, by simp, g_name ?_⟩
      dsimp only
      have nkn : ∀ {a : Addr}, G a = none → a ≠ kn := fun {a} h z => by
        rw [z, hkG] at h
        cases h
      have okn := nkn ho
      have xU : ∀ a u, a ≠ o → G4 a = some u → (upd G4 o (.dK (mergeK [] [(.inr "life", .int life), (.inr "place", .int at2), (.inr "rows", .ref rd), (.inr "known", .ref kn)]))) a = some u := fun a u n h => by rw [upd_ne n]; exact h
      have hoU : (upd G4 o (.dK (mergeK [] [(.inr "life", .int life), (.inr "place", .int at2), (.inr "rows", .ref rd), (.inr "known", .ref kn)]))) o = some (.dK (mergeK [] [(.inr "life", .int life), (.inr "place", .int at2), (.inr "rows", .ref rd), (.inr "known", .ref kn)])) := upd_same
      have nU : ∀ a, (upd G4 o (.dK (mergeK [] [(.inr "life", .int life), (.inr "place", .int at2), (.inr "rows", .ref rd), (.inr "known", .ref kn)]))) a = none → G4 a = none := fun a h => by
        have ao : a ≠ o := fun z => by rw [z, upd_same] at h; cases h
        rw [upd_ne ao] at h
        exact h
      generalize hG5 : upd G4 o (.dK (mergeK [] [(.inr "life", .int life), (.inr "place", .int at2), (.inr "rows", .ref rd), (.inr "known", .ref kn)])) = G5 at xU hoU nU
      have xG4 := xG.trans (xo.trans x14)
      have x5 : Ex H G5 := fun a u h => xU a u (fun z => by
        have := xG a u h
        rw [z, ho] at this
        cases this) (xG4 a u h)
      have rdo : rd ≠ o := fun z => by
        have := (x2.trans x3) _ _ ho1
        rw [← z, hrd] at this
        cases this
      have hkn5 : G5 kn = some (.dK kkv) := xU _ _ okn.symm ((xo.trans x14) _ _ hkG)
      have hrd5 : G5 rd = some (.dK rkv) := xU _ _ rdo hrd1
      have rdkn : rd ≠ kn := fun z => by
        have := (xo.trans (x2.trans x3)) _ _ hkG
        rw [← z, hrd] at this
        cases this
      refine s_seq ⟨.ref o, rfl, .inr (.inr (.inl ⟨rfl, .inl ⟨_, hoU⟩⟩)), fun u hu pc hpc => ⟨Nat.zero_le _, fun ev hev => ⟨Nat.zero_le _, fun ot hot => ?_⟩⟩⟩
      have y1 : Ex G5 (upd G5 u (.dK [])) := Ex.new hu
      have hu1 : (upd G5 u (.dK [])) u = some (.dK []) := upd_same
      generalize hK1 : upd G5 u (.dK []) = K1 at y1 hu1 hpc hev hot ⊢
      have y2 : Ex K1 (upd K1 pc (.dK [])) := Ex.new hpc
      have hpc2 : (upd K1 pc (.dK [])) pc = some (.dK []) := upd_same
      generalize hK2 : upd K1 pc (.dK []) = K2 at y2 hpc2 hev hot ⊢
      have y3' : Ex K2 (upd K2 ev (.lst [])) := Ex.new hev
      generalize hK3 : upd K2 ev (.lst []) = K3 at y3' hot ⊢
      have y4' : Ex K3 (upd K3 ot (.lst [])) := Ex.new hot
      have hot4 : (upd K3 ot (.lst [])) ot = some (.lst []) := upd_same
      generalize hK4 : upd K3 ot (.lst []) = K4 at y4' hot4 ⊢
      have z14 := (y2.trans y3').trans y4'
      have z4 := y1.trans z14
      have hu4 := z14 _ _ hu1
      have uo : u ≠ o := fun z => by
        rw [z, hoU] at hu
        cases hu
      have ne_of : ∀ {a : Addr} {v : HO}, G5 a = some v → a ≠ u := fun {a v} h z => by
        rw [z, hu] at h
        cases h
      have pco : pc ≠ o := fun z => by
        have := y1 _ _ hoU
        rw [← z, hpc] at this
        cases this
      have pcu : pc ≠ u := fun z => by
        rw [z, hu1] at hpc
        cases hpc
      have oto : ot ≠ o := fun z => by
        have := ((y1.trans y2).trans y3') _ _ hoU
        rw [← z, hot] at this
        cases this
      have otu : ot ≠ u := fun z => by
        have := (y2.trans y3') _ _ hu1
        rw [← z, hot] at this
        cases this
      have ne_pc : ∀ {a : Addr} {v : HO}, G5 a = some v → a ≠ pc := fun {a v} h z => by
        have := y1 _ _ h
        rw [z, hpc] at this
        cases this
      refine ⟨hu4, [(.inr "pieces", .ref pc), (.inr "ever", .ref ev), (.inr "out", .ref ot)], rfl, by simp, ?_⟩
      refine ⟨o, u, _, _, rfl, rfl, uo.symm, by rw [upd_ne uo.symm]; exact z4 _ _ hoU, upd_same, Nat.le_trans (Nat.add_le_add (length_mergeK _ []) (length_mergeK _ [])) (by simp), ?_⟩
      rw [okL_made]
      have keep : ∀ a v, a ≠ o → a ≠ u → K4 a = some v → (upd (upd K4 u (.dK (mergeK [] [(.inr "pieces", .ref pc), (.inr "ever", .ref ev), (.inr "out", .ref ot)]))) o (.dK (okL life at2 rd kn pc ev ot))) a = some v := fun a v n1 n2 h => by
        rw [upd_ne n1, upd_ne n2]
        exact h
      have Ho := fresh_back xG ho
      refine ⟨_, rfl, q o rd kn pc ev ot rkv kkv _ (fun a v h => keep a v (fun z => ?_) (ne_of (x5 a v h)) (z4 _ _ (x5 a v h))) Ho (fresh_back xG3 hrd) hkn (fresh_back (x5.trans y1) hpc) (fresh_back (x5.trans ((y1.trans y2).trans y3')) hot) ⟨upd_same, keep _ _ rdo (ne_of hrd5) (z4 _ _ hrd5), keep _ _ okn.symm (ne_of hkn5) (z4 _ _ hkn5), keep _ _ pco pcu ((y3'.trans y4') _ _ hpc2), keep _ _ oto otu hot4, rdo.symm, okn, pco.symm, rdkn, ne_pc hrd5, ne_pc hkn5⟩ di mi⟩
      rw [z, Ho] at h
      cases h
end
end K19
namespace K19
open PySem L2 PyProof.Rows Tc Evl
theorem OwAt.gPlace (S : OwAt H o rd kn pc ev ot life at' rkv kkv ov) : DGet H o (.str "place") (some (.int at')) := by
  rw [← okv_place life at' rd kn pc ev ot]
  exact DGet.k (k := .inr "place") S.ob
theorem OwAt.gLife (S : OwAt H o rd kn pc ev ot life at' rkv kkv ov) : DGet H o (.str "life") (some (.int life)) := by
  rw [← okv_life life at' rd kn pc ev ot]
  exact DGet.k (k := .inr "life") S.ob
theorem OwAt.gRows (S : OwAt H o rd kn pc ev ot life at' rkv kkv ov) : DGet H o (.str "rows") (some (.ref rd)) := by
  rw [← okv_rows life at' rd kn pc ev ot]
  exact DGet.k (k := .inr "rows") S.ob
theorem OwAt.gKnown (S : OwAt H o rd kn pc ev ot life at' rkv kkv ov) : DGet H o (.str "known") (some (.ref kn)) := by
  rw [← okv_known life at' rd kn pc ev ot]
  exact DGet.k (k := .inr "known") S.ob
theorem OwAt.gPieces (S : OwAt H o rd kn pc ev ot life at' rkv kkv ov) : DGet H o (.str "pieces") (some (.ref pc)) := by
  rw [← okv_pieces life at' rd kn pc ev ot]
  exact DGet.k (k := .inr "pieces") S.ob
theorem OwAt.gOut (S : OwAt H o rd kn pc ev ot life at' rkv kkv ov) : DGet H o (.str "out") (some (.ref ot)) := by
  rw [← okv_out life at' rd kn pc ev ot]
  exact DGet.k (k := .inr "out") S.ob
def Off4 (o rd kn ot : Addr) (H H' : Hp) : Prop := ∀ a u, a ≠ o → a ≠ rd → a ≠ kn → a ≠ ot → H a = some u → H' a = some u
theorem OwAt.off {H' : Hp} {z : Int} {rkv' kkv' : List (Key × V)} {ov' : List V} (S : OwAt H o rd kn pc ev ot life at' rkv kkv ov) (f : Off4 o rd kn ot H H') (h1 : H' o = some (.dK (okL life z rd kn pc ev ot))) (h2 : H' rd = some (.dK rkv')) (h3 : H' kn = some (.dK kkv')) (h4 : H' ot = some (.lst ov')) : OwAt H' o rd kn pc ev ot life z rkv' kkv' ov' :=
  ⟨h1, h2, h3, f _ _ S.n3.symm S.n5.symm S.n6.symm (fun e => by
    have := S.hp
    rw [e, S.ho] at this
    cases this) S.hp, h4, S.n1, S.n2, S.n3, S.n4, S.n5, S.n6⟩
theorem OwAt.ex {H' : Hp} (S : OwAt H o rd kn pc ev ot life at' rkv kkv ov) (x : Ex H H') : OwAt H' o rd kn pc ev ot life at' rkv kkv ov := S.off (fun a u _ _ _ _ h => x a u h) (x _ _ S.ob) (x _ _ S.hr) (x _ _ S.hk) (x _ _ S.ho)
abbrev sTs : Stmt := topS 52
theorem scTs : FnScope ["taker", "own", "asked", "number", "stretch", "way", "rows", "told", "sure"] ["taker", "own"] (defScope sTs) := ⟨rfl, rfl, rfl, by decide +kernel, rfl, by decide +kernel, by decide +kernel⟩
theorem eqv_rows : ∀ rs : List (Int × Int), PyData.eqvAll (rs.map Tc.pairD) (rs.map Tc.pairD) = true
  | [] => rfl
  | r :: rs => by
    rw [List.map_cons, PyData.eqvAll, eqv_rows rs]
    simp [Tc.pairD, PyData.eqv, PyData.eqvAll]
theorem eqv_same (rs : List (Int × Int)) : PyData.eqv (rowsD rs) (rowsD rs) = true := by
  unfold rowsD
  rw [PyData.eqv]
  exact eqv_rows rs
theorem shaped_rows (rs : List (Int × Int)) : SeqAt.shaped (rowsD rs) = true := by
  have h : ∀ a : List (Int × Int), PyData.canLayAll0 (a.map Tc.pairD) = true ∧ PyData.depthAll (a.map Tc.pairD) ≤ 2 := by
    intro a
    induction a with
    | nil => exact ⟨rfl, by decide⟩
    | cons n a ih =>
      have e : PyData.depth (Tc.pairD n) = 1 := rfl
      exact ⟨by rw [List.map_cons, PyData.canLayAll0, ih.1]; rfl, by rw [List.map_cons, PyData.depthAll, e]; omega⟩
  unfold SeqAt.shaped rowsD
  have h1 := h rs
  rw [PyData.canLay0, h1.1, PyData.depth, decide_eq_true (by omega)]
  rfl
/-! events as data -/
abbrev evP (p : Int × PyData) : PyData := evD p.1 p.2
theorem ev_lay (p : Int × PyData) : PyData.canLay0 (evP p) = true ∧ PyData.depth (evP p) = 1 ∧ PyData.eqv (evP p) (evP p) = true := by
  have hd : PyData.canLay0 (.str "drop") = true := by decide +kernel
  have hp : PyData.canLay0 (.str "put") = true := by decide +kernel
  have tp : ∀ (a k : Int) (x : Str) (o : PyData), PyData.canLay0 (.str x) = true → PyData.canLay0 o = true → PyData.canLay0 (.tuple [.int a, .str x, .int k, o]) = true := fun a k x o h1 h2 => by
    rw [PyData.canLay0, PyData.canLayAll0, PyData.canLayAll0, PyData.canLayAll0, PyData.canLayAll0, h1, h2]
    rfl
  unfold evP evD
  cases (chD p.2).2 with
  | none => exact ⟨tp _ _ _ _ hd rfl, by rfl, by simp [PyData.eqv, PyData.eqvAll]⟩
  | some z => exact ⟨tp _ _ _ _ hp rfl, by rfl, by simp [PyData.eqv, PyData.eqvAll]⟩
theorem evs_lay : ∀ es : List (Int × PyData), PyData.canLayAll0 (es.map evP) = true ∧ PyData.depthAll (es.map evP) ≤ 2 ∧ PyData.eqvAll (es.map evP) (es.map evP) = true
  | [] => ⟨rfl, by decide, rfl⟩
  | e :: es => by
    obtain ⟨a, b, c⟩ := evs_lay es
    obtain ⟨a1, b1, c1⟩ := ev_lay e
    refine ⟨?_, ?_, ?_⟩
    · rw [List.map_cons, PyData.canLayAll0, a, a1]
      rfl
    · rw [List.map_cons, PyData.depthAll, b1]
      omega
    · rw [List.map_cons, PyData.eqvAll, c, c1]
      rfl
theorem shaped_evs (es : List (Int × PyData)) : SeqAt.shaped (.list (es.map evP)) = true := by
  obtain ⟨a, b, _⟩ := evs_lay es
  unfold SeqAt.shaped
  rw [PyData.canLay0, a, PyData.depth, decide_eq_true (by omega)]
  rfl
theorem eqv_evs (es : List (Int × PyData)) : PyData.eqv (.list (es.map evP)) (.list (es.map evP)) = true := by
  rw [PyData.eqv]
  exact (evs_lay es).2.2
theorem nl_evs (es : List (Int × PyData)) : ∀ e ∈ es.map evP, nl 1 e = true := fun e m => by
  obtain ⟨p, _, rfl⟩ := List.mem_map.mp m
  exact nl_ev _ _
section
variable {K : PySem.W.Frag} {H : Hp} {σ : L2.St} {ta tb : TE} {d : PyData}
/-- a thing of this data, perhaps a new one -/
def EvD (K : PySem.W.Frag) (te : TE) (σ : L2.St) (H : Hp) (d : PyData) : Prop := ∀ H1, Ex H H1 → ∀ Q : VK, (∀ v H2, Ex H1 H2 → Dp K H2 v d → Q v H2) → te σ H1 Q
theorem EvD.of {v : V} (h : Ev ta σ H v) (hd : Dp K H v d) : EvD K ta σ H d := fun H1 x1 Q q => h H1 x1 Q fun H2 x2 => q v H2 x2 (dp_same (x1.trans x2) _ _ hd)
theorem EvD.same {H' : Hp} (h : EvD K ta σ H d) (x : Ex H H') : EvD K ta σ H' d := fun H1 x1 => h H1 (x.trans x1)
theorem et_neD (ha : EvD K ta σ H d) (hb : EvD K tb σ H d) (hs : SeqAt.shaped d = true) (he : PyData.eqv d d = true) : EvT (tTest (tOp (rNeD K) ta tb)) σ H false := fun H1 x1 Q q =>
  ha H1 x1 _ fun v H2 x2 d1 => hb H2 (x1.trans x2) _ fun u H3 x3 d2 => ⟨d, d, dp_same x3 _ _ d1, d2, hs, hs, by
    rw [he]
    exact ⟨false, rfl, q H3 (x2.trans x3)⟩⟩
theorem ev_eqD (ha : EvD K ta σ H d) (hb : EvD K tb σ H d) (hs : SeqAt.shaped d = true) (he : PyData.eqv d d = true) : Ev (tOp (rEqD K) ta tb) σ H (.bl true) := fun H1 x1 Q q =>
  ha H1 x1 _ fun v H2 x2 d1 => hb H2 (x1.trans x2) _ fun u H3 x3 d2 => ⟨d, d, dp_same x3 _ _ d1, d2, hs, hs, by
    rw [he]
    exact q H3 (x2.trans x3)⟩
end
theorem di_mem {ks : List Int} {kvs : List (Key × V)} {f : Int → Option Int} (h : DI ks kvs f) {k : Int} (e : (f k).isSome = true) : k ∈ ks := by
  have hv : (valV kvs (.inl k)).isSome = true := by rw [h.val, Option.isSome_map]; exact e
  obtain ⟨p, hp, e1⟩ := List.mem_map.mp (valV_memI.mpr hv)
  obtain ⟨j, hj, e2⟩ := h.inn p hp
  exact (Sum.inl.inj (e1.symm.trans e2)) ▸ hj
theorem MI.keysS {kvs : List (Key × V)} {f : Kn} (h : MI allK kvs fun k => (f k).isSome = true) : ∃ ks : List Int, kvs.map (·.1) = ks.map Sum.inl ∧ ks.length ≤ 1000 ∧ ∀ ms : List Int, ms.Perm ks → ms.Pairwise (· ≤ ·) → ms = sureL f := by
  obtain ⟨ks, hks, kl⟩ := h.keysL
  have nd : ks.Nodup := by
    have := h.nd
    rw [hks] at this
    rw [List.Nodup, List.pairwise_map] at this
    exact this.imp fun z e => z (by rw [e])
  refine ⟨ks, hks, kl, fun ms pm pw => ?_⟩
  have pS : (sureL f).Pairwise (· < ·) := by
    unfold sureL
    rw [List.pairwise_map]
    exact (List.pairwise_lt_range.filter _).imp fun {a b} z => by omega
  have nS : (sureL f).Nodup := pS.imp fun {a b} z e => by omega
  have mem : ∀ k, k ∈ ks ↔ k ∈ sureL f := fun k => by
    have h1 : k ∈ ks ↔ (valV kvs (.inl k)).isSome = true := by
      rw [← valV_memI, hks, List.mem_map]
      exact ⟨fun m => ⟨k, m, rfl⟩, fun ⟨j, m, e⟩ => (Sum.inl.inj e) ▸ m⟩
    rw [h1, h.has]
    unfold sureL
    rw [List.mem_map]
    constructor
    · intro z
      obtain ⟨p, hp, e⟩ := List.mem_map.mp (valV_memI.mpr ((h.has k).mpr z))
      obtain ⟨j, hj, e'⟩ := h.inn p hp
      obtain ⟨n, hn, e2⟩ := List.mem_map.mp hj
      have hl := List.mem_range.mp hn
      have e3 : ((n : Nat) : Int) = j := e2
      have ejk : k = j := Sum.inl.inj (e.symm.trans e')
      refine ⟨n, List.mem_filter.mpr ⟨hn, ?_⟩, by omega⟩
      rw [e3, ← ejk]
      exact z
    · rintro ⟨i, m, rfl⟩
      exact (List.mem_filter.mp m).2
  have p2 : (sureL f).Pairwise (· ≤ ·) := pS.imp fun {a b} z => by omega
  exact (pm.trans ((List.perm_ext_iff_of_nodup nd nS).mpr mem)).eq_of_pairwise (fun a b _ _ x y => by omega) pw p2
theorem shaped_three (a b c : Int) : SeqAt.shaped (.list [.int a, .int b, .int c]) = true := rfl
theorem eqv_three (a b c : Int) : PyData.eqv (.list [.int a, .int b, .int c]) (.list [.int a, .int b, .int c]) = true := by
  simp [PyData.eqv, PyData.eqvAll]
theorem shaped_sv (a : Int) (r s : List (Int × Int)) : SeqAt.shaped (.tuple [.int a, rowsD r, rowsD s]) = true := by
  have h1 := shaped_rows r
  have h2 := shaped_rows s
  have g : ∀ t : List (Int × Int), PyData.depth (rowsD t) ≤ 3 := fun t => by
    have h : ∀ a : List (Int × Int), PyData.depthAll (a.map Tc.pairD) ≤ 2 := by
      intro a
      induction a with
      | nil => decide
      | cons n a ih =>
        have e : PyData.depth (Tc.pairD n) = 1 := rfl
        rw [List.map_cons, PyData.depthAll, e]
        omega
    unfold rowsD
    rw [PyData.depth]
    have := h t
    omega
  unfold SeqAt.shaped at h1 h2 ⊢
  have c1 := (Bool.and_eq_true_iff.mp h1).1
  have c2 := (Bool.and_eq_true_iff.mp h2).1
  have g1 := g r
  have g2 := g s
  rw [PyData.canLay0, PyData.canLayAll0, PyData.canLayAll0, PyData.canLayAll0, c1, c2, PyData.depth, PyData.depthAll, PyData.depthAll, PyData.depthAll, decide_eq_true]
  · rfl
  · simp only [PyData.depth, PyData.depthAll]
    omega
theorem eqv_sv (a : Int) (r s : List (Int × Int)) : PyData.eqv (.tuple [.int a, rowsD r, rowsD s]) (.tuple [.int a, rowsD r, rowsD s]) = true := by
  rw [PyData.eqv, PyData.eqvAll, PyData.eqvAll, PyData.eqvAll, PyData.eqvAll, eqv_same, eqv_same]
  simp [PyData.eqv]
/-- what a taker and what is kept beside it have alike -/
structure TO2 (K : PySem.W.Frag) (C : Addr) (H : Hp) (p d g pp nn o rd kn pc ev ot : Addr) (life at' : Int) (kvs rkv kkv : List (Key × V)) (gv ov : List V) (f : Kn) (ks : List Int) (es : List (Int × PyData)) : Prop where
  tk : TkAt C H p d g pp nn life at' kvs gv
  kd : KD kvs f
  ow : OwAt H o rd kn pc ev ot life at' rkv kkv ov
  di : DI ks rkv (fun k => (f k).join)
  mi : MI allK kkv (fun k => (f k).isSome = true)
  dg : DpAll K H gv (es.map evP)
  dv : DpAll K H ov (es.map evP)
theorem TO2.ex {K : PySem.W.Frag} {C : Addr} {H H' : Hp} {p d g pp nn o rd kn pc ev ot : Addr} {life at' : Int} {kvs rkv kkv : List (Key × V)} {gv ov : List V} {f : Kn} {ks : List Int} {es : List (Int × PyData)} (h : TO2 K C H p d g pp nn o rd kn pc ev ot life at' kvs rkv kkv gv ov f ks es) (x : Ex H H') : TO2 K C H' p d g pp nn o rd kn pc ev ot life at' kvs rkv kkv gv ov f ks es :=
  ⟨h.tk.ex x, h.kd, h.ow.ex x, h.di, h.mi, dps_same x _ _ h.dg, dps_same x _ _ h.dv⟩
def spTs (K : PySem.W.Frag) (C : Addr) : Sp := fun vs H Q _ => ∃ (p d g pp nn o rd kn pc ev ot : Addr) (life at' : Int) (kvs rkv kkv : List (Key × V)) (gv ov : List V) (f : Kn) (ks : List Int) (es : List (Int × PyData)), vs = [.ref p, .ref o] ∧ TO2 K C H p d g pp nn o rd kn pc ev ot life at' kvs rkv kkv gv ov f ks es ∧ ks.length ≤ 1000 ∧ ∀ H', Ex H H' → Q (.bl true) H'
section
variable {P : Program} {w : World} {K : PySem.W.Frag} {mg : Str → Option Value} {base : Heap}
set_option maxHeartbeats 4000000 in
theorem ok_ts {f C fLi fPl fR fS fSv fAs fEv fN : Addr} {fd fdLi fdPl fdR fdS fdSv fdAs fdEv fdN : FuncData} {kPs kSp kLi kPl kR kS kSv kAs kEv kN k : Nat} (F : Fun K "_law_taker_so" "_law_taker_so" sTs f fd) (T : Txt K mg C) (N : Names mg) (FLi : FnOk P w K mg base CX0 kLi fLi fdLi ["self"] (spOne C fun life _ => .int life)) (bLi : Binds K fdLi ["self"] []) (mLi : Meth K C "life" fLi) (hLi : kLi ≤ k) (FPl : FnOk P w K mg base CX0 kPl fPl fdPl ["self"] (spOne C fun _ a => .int a)) (bPl : Binds K fdPl ["self"] []) (mPl : Meth K C "place" fPl) (hPl : kPl ≤ k) (FR : FnOk P w K mg base CX0 kR fR fdR ["self"] (spRows K C)) (bR : Binds K fdR ["self"] []) (mR : Meth K C "rows" fR) (hR : kR ≤ k) (FS : FnOk P w K mg base CX0 kS fS fdS ["self"] (spSureM K C)) (bS : Binds K fdS ["self"] []) (mS : Meth K C "sure" fS) (hS : kS ≤ k) (FSv : FnOk P w K mg base CX0 kSv fSv fdSv ["self"] (spSaved K C)) (bSv : Binds K fdSv ["self"] []) (mSv : Meth K C "saved" fSv) (hSv : kSv ≤ k) (FAs : FnOk P w K mg base CX0 kAs fAs fdAs ["self"] (spAsked C)) (bAs : Binds K fdAs ["self"] []) (mAs : Meth K C "asked" fAs) (hAs : kAs ≤ k) (FEv : FnOk P w K mg base CX0 kEv fEv fdEv ["self"] (spEvents K C)) (bEv : Binds K fdEv ["self"] []) (mEv : Meth K C "events" fEv) (hEv : kEv ≤ k) (FN : FnOk P w K mg base CX0 kN fN fdN ["self"] (spLen K C)) (bN : Binds K fdN ["self"] []) (mN : Meth K C "__len__" fN) (hN : kN + 1 ≤ k)
    (dPs : Own P w K mg base "_law_pairs" ["rows"] kPs (spPairs K)) (hPs : kPs ≤ k) (dSp : Own P w K mg base "_law_spans" ["keys"] kSp (spSpans K)) (hSp : kSp ≤ k) : FnOk P w K mg base CX0 (k + 1) f fd ["taker", "own"] (spTs K C) := by
  refine F.ok scTs (fun vs H Q E h => ?_) (fun cdv A outer s H vs Q E hr h => ?_)
  · obtain ⟨p, d, g, pp, nn, o, rd, kn, pc, ev, ot, life, at', kvs, rkv, kkv, gv, ov, f, ks, es, rfl, _⟩ := h
    rfl
  · obtain ⟨p, d, g, pp, nn, o, rd, kn, pc, ev, ot, life, at', kvs, rkv, kkv, gv, ov, f, ks, es, rfl, Z, h64, q⟩ := h
    refine ⟨_, (pss_cons (ps_set (i := 2) scTs.nd rfl (.inl rfl) (pe_lst pa_nil))
      (pss_cons (ps_for PassesOwn.never rfl (pi_list (pe_callB (cr_sortedDA rfl) (by rfl) N.sorted boot_sorted (pa_cons (pe_dget (hu_of hr) (pv 1) pe_str (fun _ _ => rfl)) pa_nil))) (pg_name (i := 3) scTs.nd rfl (.inl rfl)) pss_never)
      (pss_cons (ps_set (i := 6) scTs.nd rfl (.inl rfl) (pe_own dPs hr hPs (by rfl) (pa_cons (pe_dget (hu_of hr) (pv 1) pe_str (fun _ _ => rfl)) pa_nil)))
      (pss_cons (ps_set (i := 7) scTs.nd rfl (.inl rfl) (pe_lst (pa_cons (pe_meth0 (pv 0) T.cl mLi FLi (hr.mono hLi) bLi .nil pass0) (pa_cons (pe_meth0 (pv 0) T.cl mPl FPl (hr.mono hPl) bPl .nil pass0) (pa_cons (pe_callB (cr_lenO (hr.mono hN) mN FN bN) (by rfl) N.len PySem.boot_len (pa_cons (pv 0) pa_nil)) pa_nil)))))
      (pss_cons (ps_if (pt_cmpR (op_neD hr.units) (pv 7) (pe_lst (pa_cons (pe_dget (hu_of hr) (pv 1) pe_str (fun _ _ => rfl)) (pa_cons (pe_dget (hu_of hr) (pv 1) pe_str (fun _ _ => rfl)) (pa_cons (pe_callB call_len_seq (by rfl) N.len PySem.boot_len (pa_cons (pv 6) pa_nil)) pa_nil)))) (nomark _)) (pss_one (ps_ret pe_bl)) pss_nil)
      (pss_cons (ps_set (i := 8) scTs.nd rfl (.inl rfl) (pe_own dSp hr hSp (by rfl) (pa_cons (pe_dget (hu_of hr) (pv 1) pe_str (fun _ _ => rfl)) pa_nil)))
      (pss_cons (ps_if (PW.pt (pw_or (pt_cmpR (op_neD hr.units) (pe_meth0 (pv 0) T.cl mR FR (hr.mono hR) bR .nil pass0) (pv 6) (nomark _)) (pw_or1 (pt_cmpR (op_neD hr.units) (pe_meth0 (pv 0) T.cl mS FS (hr.mono hS) bS .nil pass0) (pv 8) (nomark _))))) (pss_one (ps_ret pe_bl)) pss_nil)
      (pss_cons (ps_if (pt_cmpR (op_neD hr.units) (pe_meth0 (pv 0) T.cl mSv FSv (hr.mono hSv) bSv .nil pass0) (pe_tup (pa_cons (pe_dget (hu_of hr) (pv 1) pe_str (fun _ _ => rfl)) (pa_cons (pv 6) (pa_cons (pv 8) pa_nil)))) (nomark _)) (pss_one (ps_ret pe_bl)) pss_nil)
      (pss_one (ps_ret (pe_and (pe_cmpR (op_eqD hr.units) (pe_meth0 (pv 0) T.cl mAs FAs (hr.mono hAs) bAs .nil pass0) (pv 2) (nomark _)) (pe_one (pe_cmpR (op_eqD hr.units) (pe_meth0 (pv 0) T.cl mEv FEv (hr.mono hEv) bEv .nil pass0) (pe_dget (hu_of hr) (pv 1) pe_str (fun _ _ => rfl)) (nomark _)))))))))))))), ?_⟩
    have hmem : ∀ k, ((f k).join).isSome = true → k ∈ ks := fun k e => di_mem Z.di e
    refine s_seq ⟨Nat.zero_le _, fun aL hL => g_name ?_⟩
    dsimp only
    have x1 : Ex H (upd H aL (.lst [])) := Ex.new hL
    have h1 : (upd H aL (.lst [])) aL = some (.lst []) := upd_same
    generalize hH1 : upd H aL (.lst []) = H1 at x1 h1
    have Z1 := Z.ex x1
    refine s_seq ⟨.ref o, rfl, o, .ref pc, rfl, Z1.ow.gPieces, pc, [], [], rfl, .inl Z1.ow.hp, rfl, fun ms l pm pw hl => ⟨l, rfl, ⟨_, sq_of upd_same⟩, ?_⟩⟩
    obtain rfl : ms = [] := List.perm_nil.mp pm
    have xl : Ex H1 (upd H1 l (.lst (([] : List Int).map V.int))) := Ex.new hl
    refine for_list (K := K) (a := l) (xs := ([] : List Int).map V.int) (fun j σ' G => σ' = [some (.ref p), some (.ref o), some (.ref aL), none, none, none, none, none, none] ∧ Ex H1 G ∧ G l = some (.lst (([] : List Int).map V.int))) ⟨rfl, xl, upd_same⟩ (fun j σ' G _ h => sq_of h.2.2) (fun j x σ' G hx _ => by cases hx) (fun σ' H2 h => ?_)
    obtain ⟨rfl, x2, _⟩ := h
    have Z2 := Z1.ex x2
    have hA2 := x2 _ _ h1
    -- rows
    refine s_seq ⟨.ref o, rfl, o, .ref rd, rfl, Z2.ow.gRows, rd, ks, rkv, _, rfl, Z2.ow.hr, Z2.di, h64, fun pR js H3 _ x3 kf hj tpR => g_name ?_⟩
    dsimp only
    have Z3 := Z2.ex x3
    have hA3 := x3 _ _ hA2
    obtain ⟨xR, ptR, dxR⟩ := id tpR
    have lR : xR.length = js.length := by
      rw [dps_len dxR, List.length_map]
      unfold rowsOf
      rw [List.length_map]
    -- told
    obtain ⟨dx3, hp3⟩ := Z3.tk.ob
    refine s_seq ⟨_, rfl, p, dx3, _, rfl, hp3, no_life _ _ _ _ _ _, p, d, g, pp, nn, life, at', kvs, gv, rfl, Z3.tk, fun H4 x4 => ?_⟩
    have Z4 := Z3.ex x4
    obtain ⟨dx4, hp4⟩ := Z4.tk.ob
    refine ⟨_, rfl, p, dx4, _, rfl, hp4, no_place _ _ _ _ _ _, p, d, g, pp, nn, life, at', kvs, gv, rfl, Z4.tk, fun H5 x5 => ?_⟩
    have Z5 := Z4.ex x5
    obtain ⟨dx5, hp5⟩ := Z5.tk.ob
    refine ⟨_, rfl, p, dx5, _, rfl, hp5, p, d, g, pp, nn, life, at', kvs, gv, f, ks, rfl, Z5.tk, Z5.kd, hmem, h64, fun js2 H6 x6 kf2 jl => ⟨js2.length, by omega, rfl, sz_of (by simp), fun tL hT => g_name ?_⟩⟩
    dsimp only
    obtain rfl : js = js2 := kf.one kf2
    have x7 : Ex H6 (upd H6 tL (.lst [.int life, .int at', .int (js.length : Int)])) := Ex.new hT
    have hT7 : (upd H6 tL (.lst [.int life, .int at', .int (js.length : Int)])) tL = some (.lst [.int life, .int at', .int (js.length : Int)]) := upd_same
    generalize upd H6 tL (.lst [.int life, .int at', .int (js.length : Int)]) = H7 at x7 hT7 ⊢
    have x37 := ((x4.trans x5).trans x6).trans x7
    have Z7 := Z3.ex x37
    have tpR7 := tpR.same x37
    refine s_seq (s_if (b := false) (et_neD (K := K) (d := .list [.int life, .int at', .int (js.length : Int)]) (EvD.of (ev_var rfl) (.lst (sq_of hT7) (.cons (.int _) (.cons (.int _) (.cons (.int _) .nil))))) (fun G x Q' q' => ?_) (shaped_three _ _ _) (eqv_three _ _ _)) (fun z => by cases z) fun _ H8 x8 => s_next ?_)
    · have ZG := Z7.ex x
      refine ⟨.ref o, rfl, o, .int life, rfl, ZG.ow.gLife, .ref o, rfl, o, .int at', rfl, ZG.ow.gPlace, .ref pR, rfl, pR, xR, rfl, .inr (Evl.ex_t (x37.trans x) ptR.st), sz_of (by simp), fun t ht => ?_⟩
      rw [lR]
      exact q' _ _ (Ex.new ht) (.lst (sq_of upd_same) (.cons (.int _) (.cons (.int _) (.cons (.int _) .nil))))
    have Z8 := Z7.ex x8
    obtain ⟨ks0, hks0, kl0, srt⟩ := Z8.mi.keysS
    refine s_seq ⟨.ref o, rfl, o, .ref kn, rfl, Z8.ow.gKnown, kn, kkv, ks0, rfl, Z8.ow.hk, hks0, kl0, fun pS ms H9 _ x9 pm pw tpS => g_name ?_⟩
    dsimp only
    rw [srt ms pm pw] at tpS
    have Z9 := Z8.ex x9
    have x39 := (x37.trans x8).trans x9
    have tpR9 := tpR.same x39
    have eR : ∀ {G : Hp} (σ : L2.St), Ex H9 G → σ[0]? = some (some (.ref p)) → EvD K (tMeth C "rows" (spRows K C) [] E0 (tVar 0) tNil) σ G (rowsD (rowsOf (fun k => (f k).join) js)) := fun {G} σ x s0 G1 x1 Q' q' => by
      have ZG := Z9.ex (x.trans x1)
      obtain ⟨dxG, hpG⟩ := ZG.tk.ob
      refine ⟨_, s0, p, dxG, _, rfl, hpG, no_rows _ _ _ _ _ _, p, d, g, pp, nn, life, at', kvs, gv, f, ks, rfl, ZG.tk, ZG.kd, hmem, h64, fun t js2 G2 _ x2 kf2 _ tp => ?_⟩
      obtain rfl : js = js2 := kf.one kf2
      exact q' _ _ x2 tp.dp
    have eS : ∀ {G : Hp} (σ : L2.St), Ex H9 G → σ[0]? = some (some (.ref p)) → EvD K (tMeth C "sure" (spSureM K C) [] E0 (tVar 0) tNil) σ G (rowsD (spansF (sureL f))) := fun {G} σ x s0 G1 x1 Q' q' => by
      have ZG := Z9.ex (x.trans x1)
      obtain ⟨dxG, hpG⟩ := ZG.tk.ob
      exact ⟨_, s0, p, dxG, _, rfl, hpG, no_sure _ _ _ _ _ _, p, d, g, pp, nn, life, at', kvs, gv, f, rfl, ZG.tk, ZG.kd, fun t G2 _ x2 tp => q' _ _ x2 tp.dp⟩
    refine s_seq (s_if (b := false) (et_is (et_or (et_neD (K := K) (eR _ (Ex.refl H9) rfl) (EvD.of (ev_var rfl) tpR9.dp) (shaped_rows _) (eqv_same _)) fun _ => et_neD (K := K) (eS _ (Ex.refl H9) rfl) (EvD.of (ev_var rfl) tpS.dp) (shaped_rows _) (eqv_same _)) rfl) (fun z => by cases z) fun _ Ha xa => s_next ?_)
    have Za := Z9.ex xa
    dsimp only
    refine s_seq (s_if (b := false) (et_neD (K := K) (d := .tuple [.int at', rowsD (rowsOf (fun k => (f k).join) js), rowsD (spansF (sureL f))]) (fun G x Q' q' => ?_) (fun G x Q' q' => ?_) (shaped_sv _ _ _) (eqv_sv _ _ _)) (fun z => by cases z) fun _ Hb xb => s_next ?_)
    · have ZG := Za.ex x
      obtain ⟨dxG, hpG⟩ := ZG.tk.ob
      refine ⟨_, rfl, p, dxG, _, rfl, hpG, no_saved _ _ _ _ _ _, p, d, g, pp, nn, life, at', kvs, gv, f, ks, rfl, ZG.tk, ZG.kd, hmem, h64, fun t js2 G2 _ x2 kf2 dt => ?_⟩
      obtain rfl : js = js2 := kf.one kf2
      exact q' _ _ x2 dt
    · have ZG := Za.ex x
      refine ⟨.ref o, rfl, o, .int at', rfl, ZG.ow.gPlace, .ref pR, rfl, .ref pS, rfl, sz_of (by simp), fun t ht => ?_⟩
      have xg := (xa.trans x).trans (Ex.new (o := .tup [.int at', .ref pR, .ref pS]) ht)
      exact q' _ _ (Ex.new ht) (.tup (st_of upd_same) (.cons (.int _) (.cons (dp_same xg _ _ tpR9.dp) (.cons (dp_same xg _ _ tpS.dp) .nil))))
    have Zb := Za.ex xb
    have x3b := ((x3.trans x39).trans xa).trans xb
    dsimp only
    refine s_ret (v := .bl true) (ev_is (ev_andV (a := true) (b := true) (ev_eqD (K := K) (d := .list []) (fun G x Q' q' => ?_) (EvD.of (ev_var rfl) (.lst (sq_of (x3b _ _ hA2)) .nil)) rfl rfl) fun _ => ev_eqD (K := K) (d := .list (es.map evP)) (fun G x Q' q' => ?_) (fun G x Q' q' => ?_) (shaped_evs _) (eqv_evs _)) rfl) fun H' x' => q H' (((x1.trans x2).trans x3b).trans x')
    · have ZG := Zb.ex x
      obtain ⟨dxG, hpG⟩ := ZG.tk.ob
      exact ⟨_, rfl, p, dxG, _, rfl, hpG, no_asked _ _ _ _ _ _, p, d, g, pp, nn, life, at', kvs, gv, rfl, ZG.tk, fun t G2 _ x2 ht => q' _ _ x2 (.lst (sq_of ht) .nil)⟩
    · have ZG := Zb.ex x
      obtain ⟨dxG, hpG⟩ := ZG.tk.ob
      exact ⟨_, rfl, p, dxG, _, rfl, hpG, no_events _ _ _ _ _ _, p, d, g, pp, nn, life, at', kvs, gv, rfl, ZG.tk, fun t G2 _ x2 ht => q' _ _ x2 (.lst (sq_of ht) (dps_same x2 _ _ ZG.dg))⟩
    · have ZG := Zb.ex x
      exact ⟨.ref o, rfl, o, .ref ot, rfl, ZG.ow.gOut, q' _ _ (Ex.refl G) (.lst (sq_of ZG.ow.ho) ZG.dv)⟩
end
end K19
namespace K19
open PySem L2 PyProof.Rows Tc Evl
/-! tuples stay -/
def Kt (H H' : Hp) : Prop := ∀ a u, (∃ xs, u = .tup xs ∨ ∃ o, u = .frz o (.tup xs)) → H a = some u → H' a = some u
theorem Kt.ex {H H' : Hp} (x : Ex H H') : Kt H H' := fun a u _ h => x a u h
theorem Kt.trans {H H1 H2 : Hp} (x : Kt H H1) (y : Kt H1 H2) : Kt H H2 := fun a u k h => y a u k (x a u k h)
section
variable {K : PySem.W.Frag} {H H' : Hp}
theorem Kt.t {a : Addr} {xs : List V} (e : Kt H H') (h : SqT K H a xs) : SqT K H' a xs := by
  rcases h with (h | ⟨o, h⟩) | h
  · exact .inl (.inl (e a _ ⟨xs, .inl rfl⟩ h))
  · exact .inl (.inr ⟨o, e a _ ⟨xs, .inr ⟨o, rfl⟩⟩ h⟩)
  · exact .inr h
theorem Kt.dp (e : Kt H H') : ∀ (n : Nat) (d : PyData) (v : V), nl n d = true → Dp K H v d → Dp K H' v d
  | 0, d, v, g, h => by
    cases h with
    | non => exact .non
    | bl b => exact .bl b
    | int i => exact .int i
    | str x => exact .str x
    | lst => cases g
    | tup => cases g
  | n + 1, d, v, g, h => by
    cases h with
    | non => exact .non
    | bl b => exact .bl b
    | int i => exact .int i
    | str x => exact .str x
    | lst => cases g
    | tup hs r => exact .tup (e.t hs) (dps_each (fun d m v => Kt.dp e n d v (List.all_eq_true.mp g d m)) r)
theorem Kt.dps (e : Kt H H') {n : Nat} {ds : List PyData} {vs : List V} (g : ∀ d ∈ ds, nl n d = true) (h : DpAll K H vs ds) : DpAll K H' vs ds := dps_each (fun d m v => e.dp n d v (g d m)) h
theorem Kt.tp (e : Kt H H') {p : Addr} {rs : List (Int × Int)} (h : TP K H p rs) : TP K H' p rs := by
  obtain ⟨xs, ⟨o, h1, h2⟩, h3⟩ := h
  refine ⟨xs, ⟨o, e _ _ ⟨xs, .inr ⟨o, rfl⟩⟩ h1, h2⟩, e.dps (n := 1) (fun d m => ?_) h3⟩
  obtain ⟨r, _, rfl⟩ := List.mem_map.mp m
  rfl
theorem Kt.sv (e : Kt H H') {sv : Addr} {at2 : Int} {rws sp : List (Int × Int)} (h : SvAt K H sv at2 rws sp) : SvAt K H' sv at2 rws sp := by
  obtain ⟨pT, pS, h1, h2, h3⟩ := h
  exact ⟨pT, pS, e.t h1, e.tp h2, e.tp h3⟩
end
theorem Kt.fr {b : Addr} {H H' : Hp} (hB : Bag H b) (f : Tc.Fr b H H') : Kt H H' := fun a u k h => f.at h fun z => by
  obtain ⟨x, y, hb, _⟩ := hB
  rw [z, hb] at h
  obtain ⟨xs, rfl | ⟨o, rfl⟩⟩ := k <;> cases h
theorem Kt.off3 {C p d g pp nn : Addr} {H H' : Hp} {life at' : Int} {kvs : List (Key × V)} {gv : List V} (S : TkAt C H p d g pp nn life at' kvs gv) (off : Off3 p d g H H') : Kt H H' := fun a u k h => by
  obtain ⟨dx, hp⟩ := S.ob
  refine off a u (fun z => ?_) (fun z => ?_) (fun z => ?_) h
  · rw [z, hp] at h
    obtain ⟨xs, rfl | ⟨o, rfl⟩⟩ := k <;> cases h
  · rw [z, S.dc] at h
    obtain ⟨xs, rfl | ⟨o, rfl⟩⟩ := k <;> cases h
  · rw [z, S.gl] at h
    obtain ⟨xs, rfl | ⟨o, rfl⟩⟩ := k <;> cases h
theorem Kt.off4 {H H' : Hp} {o rd kn pc ev ot : Addr} {life at' : Int} {rkv kkv : List (Key × V)} {ov : List V} (W : OwAt H o rd kn pc ev ot life at' rkv kkv ov) (off : Off4 o rd kn ot H H') : Kt H H' := fun a u k h => by
  refine off a u (fun z => ?_) (fun z => ?_) (fun z => ?_) (fun z => ?_) h
  · rw [z, W.ob] at h
    obtain ⟨xs, rfl | ⟨o, rfl⟩⟩ := k <;> cases h
  · rw [z, W.hr] at h
    obtain ⟨xs, rfl | ⟨o, rfl⟩⟩ := k <;> cases h
  · rw [z, W.hk] at h
    obtain ⟨xs, rfl | ⟨o, rfl⟩⟩ := k <;> cases h
  · rw [z, W.ho] at h
    obtain ⟨xs, rfl | ⟨o, rfl⟩⟩ := k <;> cases h
/-! what is known, and rows -/
theorem learn_rows : ∀ (cs : List (Int × Option Int)) (f : Kn), (fun k => (learnCs f cs k).join) = appl (fun k => (f k).join) cs
  | [], f => rfl
  | c :: cs, f => by
    have h := learn_rows cs (kset f c.1 c.2)
    have e : (fun k => (kset f c.1 c.2 k).join) = fset (fun k => (f k).join) c.1 c.2 := by
      funext k
      unfold kset fset
      by_cases z : k = c.1
      · rw [if_pos z, if_pos z]
        rfl
      · rw [if_neg z, if_neg z]
    rw [e] at h
    exact h
theorem learn_sure : ∀ (cs : List (Int × Option Int)) (f : Kn) (k : Int), (learnCs f cs k).isSome = true ↔ (f k).isSome = true ∨ ∃ c ∈ cs, c.1 = k
  | [], f, k => ⟨.inl, fun z => z.elim id fun ⟨_, m, _⟩ => by cases m⟩
  | c :: cs, f, k => by
    refine (learn_sure cs (kset f c.1 c.2) k).trans ?_
    have e : (kset f c.1 c.2 k).isSome = true ↔ (f k).isSome = true ∨ c.1 = k := by
      unfold kset
      by_cases z : k = c.1
      · rw [if_pos z]
        exact ⟨fun _ => .inr z.symm, fun _ => rfl⟩
      · rw [if_neg z]
        exact ⟨.inl, fun y => y.elim id fun y => absurd y.symm z⟩
    rw [e, or_assoc]
    refine or_congr Iff.rfl ⟨fun y => ?_, fun ⟨c', m, y⟩ => ?_⟩
    · rcases y with y | ⟨c', m, y⟩
      · exact ⟨c, List.mem_cons_self, y⟩
      · exact ⟨c', List.mem_cons_of_mem _ m, y⟩
    · rcases List.mem_cons.mp m with m | m
      · exact .inl (m ▸ y)
      · exact .inr ⟨c', m, y⟩
theorem begun_rows {rws sp : List (Int × Int)} (h : ∀ r ∈ rws, inSp sp r.1) : fRows rws = fun k => (learnS (fun _ => none) sp rws k).join := by
  funext k
  obtain ⟨h1, h2⟩ := learnS_is rws sp (fun _ => none) (fun _ => .inl rfl) k
  by_cases c : inSp sp k
  · rw [h1 (.inl c)]
    rfl
  · rw [h2 c rfl]
    cases e : fRows rws k with
    | none => rfl
    | some z =>
      obtain ⟨r, m, er⟩ := fRows_in (rws := rws) (k := k) (by rw [e]; rfl)
      exact absurd (er ▸ h r m) c
theorem begun_sure {rws sp : List (Int × Int)} (k : Int) : inSp sp k ↔ (learnS (fun _ => none) sp rws k).isSome = true := by
  obtain ⟨h1, h2⟩ := learnS_is rws sp (fun _ => none) (fun _ => .inl rfl) k
  by_cases c : inSp sp k
  · rw [h1 (.inl c)]
    exact ⟨fun _ => rfl, fun _ => c⟩
  · rw [h2 c rfl]
    exact ⟨fun z => absurd z c, fun z => by cases z⟩
/-- how Taker(life, saved=..) is bound -/
theorem kb_init {K : PySem.W.Frag} {f : Addr} {fd : FuncData} (F : FunD K "__init__" "Taker.__init__" (defArgs mInit) (defBody mInit) (defScope mInit) [] [("place", .int 0)] f fd) : ∃ g, KBn K fd ["self", "life", "place", "saved"] 2 ["saved"] g (fun vs zs => vs ++ [.int 0] ++ zs) := by
  obtain ⟨mv, h⟩ := F.kbinds0 (ps := ["self", "life", "place", "saved"]) 2 ["saved"] [("place", .int 0)] (fun us mv ws => us ++ mv ++ ws) (by simp) (fun q m => m) (fun r1 r2 r3 => (r1.append r2).append r3) (fun D doc pm an cdv ct us mv ws l1 l2 l3 => by
    match us, mv, ws, l1, l2, l3 with
    | [a, b], [m], [s], _, _, _ => exact ⟨_, _, _, _, _, _, rfl, rfl, rfl⟩)
  exact ⟨_, h⟩
section
variable {K : PySem.W.Frag} {C : Addr} {p d g pp nn o rd kn pc ev ot : Addr} {H H' : Hp} {life at' : Int} {kvs rkv kkv : List (Key × V)} {gv ov : List V} {f : Kn} {ks : List Int} {es : List (Int × PyData)}
/-- the bag's draws leave both as they are -/
theorem TO2.fr {b : Addr} (Z : TO2 K C H p d g pp nn o rd kn pc ev ot life at' kvs rkv kkv gv ov f ks es) (hB : Bag H b) (fr : Tc.Fr b H H') (n1 : g ≠ b) (n2 : ot ≠ b) : TO2 K C H' p d g pp nn o rd kn pc ev ot life at' kvs rkv kkv gv ov f ks es := by
  obtain ⟨x, y, hb, _⟩ := id hB
  have ne : ∀ {a : Addr} {u : HO}, H a = some u → (∀ xs, u ≠ .lst xs) → a ≠ b := fun h k z => by
    rw [z, hb] at h
    exact k _ (Option.some.inj h).symm
  obtain ⟨dx, hp⟩ := Z.tk.ob
  have kt := Kt.fr hB fr
  exact ⟨⟨⟨dx, fr.at hp (ne hp fun _ z => by cases z)⟩, fr.at Z.tk.dc (ne Z.tk.dc fun _ z => by cases z), fr.at Z.tk.gl n1, fr.at Z.tk.pe (ne Z.tk.pe fun _ z => by cases z), fr.at Z.tk.nu (ne Z.tk.nu fun _ z => by cases z), Z.tk.n1, Z.tk.n2⟩, Z.kd,
    ⟨fr.at Z.ow.ob (ne Z.ow.ob fun _ z => by cases z), fr.at Z.ow.hr (ne Z.ow.hr fun _ z => by cases z), fr.at Z.ow.hk (ne Z.ow.hk fun _ z => by cases z), fr.at Z.ow.hp (ne Z.ow.hp fun _ z => by cases z), fr.at Z.ow.ho n2, Z.ow.n1, Z.ow.n2, Z.ow.n3, Z.ow.n4, Z.ow.n5, Z.ow.n6⟩, Z.di, Z.mi, kt.dps (nl_evs es) Z.dg, kt.dps (nl_evs es) Z.dv⟩
end
end K19
namespace K19
open PySem L2 PyProof.Rows Tc Evl NdefX
abbrev mNk : Stmt := inClass cNoKey 0
theorem scNk : NScope ["self", "key", "__class__"] ["self", "key"] ["__class__"] (defScope mNk) := nscope_by (by decide +kernel)
section
variable {P : Program} {w : World} {K : PySem.W.Frag} {mg : Str → Option Value} {base : Heap}
set_option maxHeartbeats 1000000 in
theorem ok_nk {f C cc cda : Addr} {k : Nat} {dV kV doc pm ct oc : Value} {an od : Option Addr} {osl : Array (Option Value)} (lk : K.lookup f = some ⟨oc, od, .func (PySem.W.fnX "__init__" "NoKey.__init__" (defArgs mNk) (defBody mNk) (defScope mNk) [("__class__", cc)] dV kV doc pm an (.ref cda) ct), osl⟩)
    (hcd : PySem.W.codeIn K (.ref cda) "NoKey.__init__" = true) (T : OexC K C) (hc : ∃ ol : Obj, K.lookup cc = some ol ∧ ol.data = .cell (some (.ref C))) (hno : PySem.W.findIn K (.ref C) "key" = some none) (Z : SupF P K mg C cda) :
    FnOk P w K mg base CX0 (k + 1) f (PySem.W.fnX "__init__" "NoKey.__init__" (defArgs mNk) (defBody mNk) (defScope mNk) [("__class__", cc)] dV kV doc pm an (.ref cda) ct) ["self", "key"] (spX1 C "key") := by
  refine fn_super (N := ["self", "key", "__class__"]) (me := "self") lk hcd scNk (fun vs H Q E h => ?_) T hc rfl rfl (fun _ => ⟨_, rfl⟩) (fun _ => rfl) (fun _ => rfl) (fun _ => rfl) (fun A outer s H E => ?_) (fun A outer s H vs Q E hr h => ?_)
  · obtain ⟨a, i, rfl, _⟩ := h
    rfl
  · exact ⟨rfl, rfl, rfl, rfl, ⟨_, _, _, lk, rfl, rfl, rfl⟩, Z.cd, Z.top, Z.mg, rfl, hc, rfl, Z.cl, Z.mr, Z.op, Z.su, Z.ve⟩
  · obtain ⟨a, i, rfl, ha, hi, q⟩ := h
    refine ⟨a, _, _, rfl, ha, pa_cons (pe_joined (.cons pe_str (.cons (pe_fmt (pv 1)) .nil))) pa_nil, pss_one (ps_ost (pv 0) (pv 1)), fun u hu => ?_⟩
    have ua : a ≠ u := ne_of_none ha hu
    refine ⟨_, rfl, by decide, .int i, rfl, .inr ⟨i, rfl, hi, _, rfl, text_fits (by decide) hi, ?_⟩⟩
    refine ⟨rfl, by simp, .int i, rfl, .ref a, rfl, a, C, rfl, T, hno, .inl ⟨(upd_ne ua).trans ha, fun d hd da => ?_⟩⟩
    have du : d ≠ u := fun z => by
      rw [z, upd_same] at hd
      cases hd
    rw [upd_ne du] at hd
    exact q d _ hd da upd_same ((upd_ne da).trans upd_same) fun b o ba hb => (upd_ne ba).trans ((upd_ne (ne_of_none hb hd)).trans ((upd_ne (ne_of_none hb hu)).trans hb))
end
abbrev mNs : Stmt := inClass cNotSure 0
theorem scNs : NScope ["self", "key", "__class__"] ["self", "key"] ["__class__"] (defScope mNs) := nscope_by (by decide +kernel)
section
variable {P : Program} {w : World} {K : PySem.W.Frag} {mg : Str → Option Value} {base : Heap}
set_option maxHeartbeats 1000000 in
theorem ok_ns {f C cc cda : Addr} {k : Nat} {dV kV doc pm ct oc : Value} {an od : Option Addr} {osl : Array (Option Value)} (lk : K.lookup f = some ⟨oc, od, .func (PySem.W.fnX "__init__" "NotSure.__init__" (defArgs mNs) (defBody mNs) (defScope mNs) [("__class__", cc)] dV kV doc pm an (.ref cda) ct), osl⟩)
    (hcd : PySem.W.codeIn K (.ref cda) "NotSure.__init__" = true) (T : OexC K C) (hc : ∃ ol : Obj, K.lookup cc = some ol ∧ ol.data = .cell (some (.ref C))) (hno : PySem.W.findIn K (.ref C) "key" = some none) (Z : SupF P K mg C cda) :
    FnOk P w K mg base CX0 (k + 1) f (PySem.W.fnX "__init__" "NotSure.__init__" (defArgs mNs) (defBody mNs) (defScope mNs) [("__class__", cc)] dV kV doc pm an (.ref cda) ct) ["self", "key"] (spX1 C "key") := by
  refine fn_super (N := ["self", "key", "__class__"]) (me := "self") lk hcd scNs (fun vs H Q E h => ?_) T hc rfl rfl (fun _ => ⟨_, rfl⟩) (fun _ => rfl) (fun _ => rfl) (fun _ => rfl) (fun A outer s H E => ?_) (fun A outer s H vs Q E hr h => ?_)
  · obtain ⟨a, i, rfl, _⟩ := h
    rfl
  · exact ⟨rfl, rfl, rfl, rfl, ⟨_, _, _, lk, rfl, rfl, rfl⟩, Z.cd, Z.top, Z.mg, rfl, hc, rfl, Z.cl, Z.mr, Z.op, Z.su, Z.ve⟩
  · obtain ⟨a, i, rfl, ha, hi, q⟩ := h
    refine ⟨a, _, _, rfl, ha, pa_cons (pe_joined (.cons pe_str (.cons (pe_fmt (pv 1)) .nil))) pa_nil, pss_one (ps_ost (pv 0) (pv 1)), fun u hu => ?_⟩
    have ua : a ≠ u := ne_of_none ha hu
    refine ⟨_, rfl, by decide, .int i, rfl, .inr ⟨i, rfl, hi, _, rfl, text_fits (by decide) hi, ?_⟩⟩
    refine ⟨rfl, by simp, .int i, rfl, .ref a, rfl, a, C, rfl, T, hno, .inl ⟨(upd_ne ua).trans ha, fun d hd da => ?_⟩⟩
    have du : d ≠ u := fun z => by
      rw [z, upd_same] at hd
      cases hd
    rw [upd_ne du] at hd
    exact q d _ hd da upd_same ((upd_ne da).trans upd_same) fun b o ba hb => (upd_ne ba).trans ((upd_ne (ne_of_none hb hd)).trans ((upd_ne (ne_of_none hb hu)).trans hb))
end
end K19
namespace K19
open PySem L2 L2H PyProof.Rows Tc Evl
theorem scKinds : FnScope ["e", "some", "words", "k"] ["e"] (defScope sKinds) := ⟨rfl, rfl, rfl, by decide +kernel, rfl, by decide +kernel, by decide +kernel⟩
section
variable {P : Program} {w : World} {K : PySem.W.Frag} {mg : Str → Option Value} {base : Heap}
set_option maxHeartbeats 2000000 in
theorem ok_kinds {f : Addr} {fd : FuncData} {k : Nat} (F : Fun K "_law_kinds" "_law_kinds" sKinds f fd) (N : Names mg) : FnP P w K mg base CX0 (k + 1) f fd ["e"] (spKinds K mg) := by
  refine okP F scKinds (fun p vs H Q E h => ?_) (fun cdv A outer s H vs Q E p hot hr h => ?_)
  · obtain ⟨D, d, fl, rfl, _⟩ := h
    rfl
  · obtain ⟨D, d, fl, rfl, C, hx, hd, q⟩ := h
    have hp : HotP (cxH CX0 P w K mg base ["e", "some", "words", "k"] "_law_kinds" (defScope sKinds) f cdv A outer s H E p) p := ⟨⟨hot.1, hot.2⟩, List.mem_singleton.mpr rfl⟩
    refine ⟨_, (pss_cons (ps_set (i := 1) scKinds.nd rfl (.inr rfl) (pe_lst (pa_cons (pe_is1 C.ck hp.2 hx (by rfl) N.isinstance (by rfl) (C.one 0 _ rfl) (pv 0)) (pa_cons (pe_is1 C.ck hp.2 hx (by rfl) N.isinstance (by rfl) (C.one 1 _ rfl) (pv 0)) (pa_cons (pe_is1 C.ck hp.2 hx (by rfl) N.isinstance (by rfl) (C.one 2 _ rfl) (pv 0)) (pa_cons (pe_is1 C.ck hp.2 hx (by rfl) N.isinstance (by rfl) (C.one 3 _ rfl) (pv 0)) pa_nil))))))
      (pss_cons (ps_set (i := 1) scKinds.nd rfl (.inr rfl) (pe_op op_cat (pv 1) (pe_lst (pa_cons (pe_is1 C.ck hp.2 hx (by rfl) N.isinstance (by rfl) (C.one 4 _ rfl) (pv 0)) (pa_cons (pe_is1 C.ck hp.2 hx (by rfl) N.isinstance (by rfl) (C.one 5 _ rfl) (pv 0)) (pa_cons (pe_is1 C.ck hp.2 hx (by rfl) N.isinstance (by rfl) (C.one 6 _ rfl) (pv 0)) (pa_cons (pe_is1 C.ck hp.2 hx (by rfl) N.isinstance (by rfl) (C.one 7 _ rfl) (pv 0)) pa_nil)))))))
      (pss_cons (ps_set (i := 1) scKinds.nd rfl (.inr rfl) (pe_op op_cat (pv 1) (pe_lst (pa_cons (pe_is1 C.ck hp.2 hx (by rfl) N.isinstance (by rfl) (C.one 8 _ rfl) (pv 0)) (pa_cons (pe_is1 C.ck hp.2 hx (by rfl) N.isinstance (by rfl) (C.one 9 _ rfl) (pv 0)) (pa_cons (pe_is1 C.ck hp.2 hx (by rfl) N.isinstance (by rfl) (C.one 10 _ rfl) (pv 0)) (pa_cons (pe_is1 C.ck hp.2 hx (by rfl) N.isinstance (by rfl) (C.one 11 _ rfl) (pv 0)) pa_nil)))))))
      (pss_cons (ps_set (i := 1) scKinds.nd rfl (.inr rfl) (pe_op op_cat (pv 1) (pe_lst (pa_cons (pe_is1 C.ck hp.2 hx (by rfl) N.isinstance (by rfl) (C.one 12 _ rfl) (pv 0)) (pa_cons (pe_is1 C.ck hp.2 hx (by rfl) N.isinstance (by rfl) (C.one 13 _ rfl) (pv 0)) (pa_cons (pe_is1 C.ck hp.2 hx (by rfl) N.isinstance (by rfl) (C.one 14 _ rfl) (pv 0)) (pa_cons (pe_is1 C.ck hp.2 hx (by rfl) N.isinstance (by rfl) (C.one 15 _ rfl) (pv 0)) pa_nil)))))))
      (pss_cons (ps_set (i := 1) scKinds.nd rfl (.inr rfl) (pe_op op_cat (pv 1) (pe_lst (pa_cons (pe_is1 C.ck hp.2 hx (by rfl) N.isinstance (by rfl) (C.one 16 _ rfl) (pv 0)) (pa_cons (pe_is1 C.ck hp.2 hx (by rfl) N.isinstance (by rfl) (C.one 17 _ rfl) (pv 0)) (pa_cons (pe_is1 C.ck hp.2 hx (by rfl) N.isinstance (by rfl) (C.one 18 _ rfl) (pv 0)) pa_nil))))))
      (pss_cons (ps_set (i := 1) scKinds.nd rfl (.inr rfl) (pe_op op_cat (pv 1) (pe_lst (pa_cons (pe_is1 C.ck hp.2 hx (by rfl) N.isinstance (by rfl) (C.one 19 _ rfl) (pv 0)) (pa_cons (pe_is1 C.ck hp.2 hx (by rfl) N.isinstance (by rfl) (C.one 20 _ rfl) (pv 0)) (pa_cons (pe_is1 C.ck hp.2 hx (by rfl) N.isinstance (by rfl) (C.one 21 _ rfl) (pv 0)) (pa_cons (pe_is1 C.ck hp.2 hx (by rfl) N.isinstance (by rfl) (C.one 22 _ rfl) (pv 0)) pa_nil)))))))
      (pss_cons (ps_set (i := 1) scKinds.nd rfl (.inr rfl) (pe_op op_cat (pv 1) (pe_lst (pa_cons (pe_is1 C.ck hp.2 hx (by rfl) N.isinstance (by rfl) (C.one 23 _ rfl) (pv 0)) (pa_cons (pe_is1 C.ck hp.2 hx (by rfl) N.isinstance (by rfl) (C.one 24 _ rfl) (pv 0)) (pa_cons (pe_isV C.ck hp.2 hx (by rfl) N.isinstance (by rfl) N.ve C.ve (pv 0)) pa_nil))))))
      (pss_cons (ps_set (i := 2) scKinds.nd rfl (.inr rfl) (pe_lst (pa_cons pe_str (pa_cons pe_str (pa_cons pe_str (pa_cons pe_str (pa_cons pe_str (pa_cons pe_str (pa_cons pe_str (pa_cons pe_str (pa_cons pe_str (pa_cons pe_str pa_nil))))))))))))
      (pss_cons (ps_set (i := 2) scKinds.nd rfl (.inr rfl) (pe_op op_cat (pv 2) (pe_lst (pa_cons pe_str (pa_cons pe_str (pa_cons pe_str (pa_cons pe_str (pa_cons pe_str (pa_cons pe_str (pa_cons pe_str (pa_cons pe_str pa_nil)))))))))))
      (pss_cons (ps_set (i := 2) scKinds.nd rfl (.inr rfl) (pe_op op_cat (pv 2) (pe_lst (pa_cons pe_str (pa_cons pe_str (pa_cons pe_str (pa_cons pe_str (pa_cons pe_str (pa_cons pe_str (pa_cons pe_str (pa_cons pe_str pa_nil)))))))))))
      (pss_one (ps_ret (pe_join pe_str (pe_lcH (own := [("k", 3)]) (g := gName 3) (tt := tB (tOp (rIxL K) (tVar 1) (tVar 3))) (te := tOp (rIxL K) (tVar 2) (tVar 3)) hp scKinds.nd (pi_range1H (by rfl) N.range (pa_cons pe_int pa_nil)) (blkOk_by (N := ["e", "some", "words", "k"]) (sc := defScope sKinds) (by decide +kernel)) (fun _ _ _ _ _ => pg_name (i := 3) scKinds.nd rfl (Or.inl rfl)) (fun _ _ _ _ _ => (pts_one (pt_val (pe_ix ix_list (pv 1) (pv 3) (fun _ _ => rfl))))) (fun _ _ _ _ _ => (pe_ix ix_list (pv 2) (pv 3) (fun _ _ => rfl))))))))))))))))), ?_⟩
    refine q_asgL (el_lst (ea_cons (ev_is1 (ev_var rfl) (xs_ex (Ex.refl H) hd)) (ea_cons (ev_is1 (ev_var rfl) (xs_ex (Ex.refl H) hd)) (ea_cons (ev_is1 (ev_var rfl) (xs_ex (Ex.refl H) hd)) (ea_cons (ev_is1 (ev_var rfl) (xs_ex (Ex.refl H) hd)) ea_nil)))) (by simp)) (fun p0 H0 _ x0 h0 => ?_)
    refine q_asgL (el_catV (ev_var rfl) h0 (el_lst (ea_cons (ev_is1 (ev_var rfl) (xs_ex x0 hd)) (ea_cons (ev_is1 (ev_var rfl) (xs_ex x0 hd)) (ea_cons (ev_is1 (ev_var rfl) (xs_ex x0 hd)) (ea_cons (ev_is1 (ev_var rfl) (xs_ex x0 hd)) ea_nil)))) (by simp)) (by simp)) (fun p1 H1 _ y1 h1 => ?_)
    have x1 := x0.trans y1
    refine q_asgL (el_catV (ev_var rfl) h1 (el_lst (ea_cons (ev_is1 (ev_var rfl) (xs_ex x1 hd)) (ea_cons (ev_is1 (ev_var rfl) (xs_ex x1 hd)) (ea_cons (ev_is1 (ev_var rfl) (xs_ex x1 hd)) (ea_cons (ev_is1 (ev_var rfl) (xs_ex x1 hd)) ea_nil)))) (by simp)) (by simp)) (fun p2 H2 _ y2 h2 => ?_)
    have x2 := x1.trans y2
    refine q_asgL (el_catV (ev_var rfl) h2 (el_lst (ea_cons (ev_is1 (ev_var rfl) (xs_ex x2 hd)) (ea_cons (ev_is1 (ev_var rfl) (xs_ex x2 hd)) (ea_cons (ev_is1 (ev_var rfl) (xs_ex x2 hd)) (ea_cons (ev_is1 (ev_var rfl) (xs_ex x2 hd)) ea_nil)))) (by simp)) (by simp)) (fun p3 H3 _ y3 h3 => ?_)
    have x3 := x2.trans y3
    refine q_asgL (el_catV (ev_var rfl) h3 (el_lst (ea_cons (ev_is1 (ev_var rfl) (xs_ex x3 hd)) (ea_cons (ev_is1 (ev_var rfl) (xs_ex x3 hd)) (ea_cons (ev_is1 (ev_var rfl) (xs_ex x3 hd)) ea_nil))) (by simp)) (by simp)) (fun p4 H4 _ y4 h4 => ?_)
    have x4 := x3.trans y4
    refine q_asgL (el_catV (ev_var rfl) h4 (el_lst (ea_cons (ev_is1 (ev_var rfl) (xs_ex x4 hd)) (ea_cons (ev_is1 (ev_var rfl) (xs_ex x4 hd)) (ea_cons (ev_is1 (ev_var rfl) (xs_ex x4 hd)) (ea_cons (ev_is1 (ev_var rfl) (xs_ex x4 hd)) ea_nil)))) (by simp)) (by simp)) (fun p5 H5 _ y5 h5 => ?_)
    have x5 := x4.trans y5
    refine q_asgL (el_catV (ev_var rfl) h5 (el_lst (ea_cons (ev_is1 (ev_var rfl) (xs_ex x5 hd)) (ea_cons (ev_is1 (ev_var rfl) (xs_ex x5 hd)) (ea_cons (ev_is1 (ev_var rfl) (xs_ex x5 hd)) ea_nil))) (by simp)) (by simp)) (fun p6 H6 _ y6 h6 => ?_)
    have x6 := x5.trans y6
    refine q_asgL (el_lst (ea_cons ev_c (ea_cons ev_c (ea_cons ev_c (ea_cons ev_c (ea_cons ev_c (ea_cons ev_c (ea_cons ev_c (ea_cons ev_c (ea_cons ev_c (ea_cons ev_c ea_nil)))))))))) (by simp)) (fun p7 H7 _ y7 h7 => ?_)
    have x7 := x6.trans y7
    refine q_asgL (el_catV (ev_var rfl) h7 (el_lst (ea_cons ev_c (ea_cons ev_c (ea_cons ev_c (ea_cons ev_c (ea_cons ev_c (ea_cons ev_c (ea_cons ev_c (ea_cons ev_c ea_nil)))))))) (by simp)) (by simp)) (fun p8 H8 _ y8 h8 => ?_)
    have x8 := x7.trans y8
    refine q_asgL (el_catV (ev_var rfl) h8 (el_lst (ea_cons ev_c (ea_cons ev_c (ea_cons ev_c (ea_cons ev_c (ea_cons ev_c (ea_cons ev_c (ea_cons ev_c (ea_cons ev_c ea_nil)))))))) (by simp)) (by simp)) (fun p9 H9 _ y9 h9 => ?_)
    have x9 := x8.trans y9
    rw [flags_eq fun i => V.bl (fl.getD i false)] at h6
    exact kinds_end (v := .ref p.1) (((y7.trans y8).trans y9) p6 _ h6) h9 fun H' x' => q H' (x9.trans x')
end
end K19
namespace Tc
open PySem L2 L2H PyProof.Rows Evl
/-- a rule that is wanted on one way alone -/
def tXc (c : Prop) (te : TE) : TE := fun σ H Q => c ∧ te σ H Q
theorem pe_c {X : Cx} {e : Expr} {te : TE} {c : Prop} (h : c → PE X e te) : PE X e (tXc c te) := ⟨fun pins s σ H Q I w => (h w.1).run pins s σ H Q I w.2⟩
/-- names of classes, and whether D is one of them -/
inductive ClsAt (X : Cx) (D : Addr) : List Expr → List Addr → Bool → Prop
  | nil : ClsAt X D [] [] false
  | cons {x : Str} {p : Pos} {b r : Bool} {es : List Expr} {cs : List Addr} (g : Gl X x) (hd : (x == ("__debug__" : Str)) = false) (hm : ∃ c, X.mg x = some (.ref c) ∧ PySem.W.kitOne X.K (.ref D) (.ref c) = some b) (t : ClsAt X D es cs r) : ClsAt X D (.Name x p :: es) (Classical.choose hm :: cs) (b || r)
theorem ClsAt.any {X : Cx} {D : Addr} {es : List Expr} {cs : List Addr} {b : Bool} (h : ClsAt X D es cs b) : PySem.W.kitAny X.K (.ref D) (cs.map Value.ref) = some b := by
  induction h with
  | nil => rfl
  | @cons x p b r es cs g hd hm t ih =>
    have e := (Classical.choose_spec hm).2
    rw [List.map_cons, PySem.W.kitAny, e]
    cases b with
    | true => rfl
    | false => exact ih
/-- the reading of (A, B, ..) -/
theorem ClsAt.pa {X : Cx} {D : Addr} {es : List Expr} {cs : List Addr} {b : Bool} (h : ClsAt X D es cs b) (hst : ∀ x (p : Pos) rest, starEach (.Name x p :: rest) X.env = (false, eval (.Name x p) X.env) :: starEach rest X.env) : ∃ t : TA, PA X es t ∧ ∀ σ H (Q : List V → Hp → Prop), Q (cs.map V.ref) H → t σ H Q := by
  induction h with
  | nil => exact ⟨tNil, pa_nil, fun σ H Q q => q⟩
  | @cons x p b r es cs g hd hm t ih =>
    obtain ⟨tt, ht, hq⟩ := ih
    refine ⟨tCons (tC (.ref (Classical.choose hm))) tt, pa_cons (pe_glob (v := .ref (Classical.choose hm)) g (Classical.choose_spec hm).1 rfl hd) ht (hst _ _ _), fun σ H Q q => hq σ H _ q⟩
/-- isinstance(e, (A, B, ..)) -/
def tIsM (pt : Addr × Obj) (d : Option Addr) (b : Bool) (te : TE) : TE := fun σ H Q => te σ H fun v H1 => v = .ref pt.1 ∧ (∀ a, d = some a → ∃ fs, H1 a = some (.xd fs)) ∧ ∀ H2, Ex H1 H2 → Q (.bl b) H2
theorem pe_isT1 {X : Cx} {D : Addr} {d : Option Addr} {pt : Addr × Obj} {y : Str} {i : Nat} {p p1 p2 pos : Pos} {k2} {es : List Expr} {cs : List Addr} {b : Bool} (C : ExK X.K D) (hp : pt ∈ X.pn) (hx : IsEx D d pt) (gi : Gl X "isinstance") (ni : X.mg "isinstance" = none) (hst : ∀ x (p : Pos) rest, starEach (.Name x p :: rest) X.env = (false, eval (.Name x p) X.env) :: starEach rest X.env) (he : PE X (.Name y p1) (tVar i)) (h : ClsAt X D es cs b)
    (hs : starEach [.Name y p1, .Tuple es k2 p2] X.env = (false, eval (.Name y p1) X.env) :: starEach [.Tuple es k2 p2] X.env := by rfl) (hs2 : starEach [.Tuple es k2 p2] X.env = (false, eval (.Tuple es k2 p2) X.env) :: starEach [] X.env := by rfl) (hn : cs.length ≤ 1000 := by simp) :
    PE X (.Call (.Name "isinstance" p) [.Name y p1, .Tuple es k2 p2] [] pos) (tIsM pt d b (tVar i)) := by
  obtain ⟨t, ht, hq⟩ := h.pa hst
  have r := pe_callB (pos := pos) (p := p) (call_isT C hp hx) gi ni boot_isinstance (pa_cons he (pa_cons (pe_tup ht) pa_nil hs2) hs)
  refine ⟨fun pins s σ H Q I w => r.run pins s σ H Q I ?_⟩
  obtain ⟨v, h1, rfl, h2, q⟩ := w
  refine ⟨_, h1, hq _ _ _ ⟨sz_of (by rw [List.length_map]; omega), fun tp htp => ⟨tp, cs, b, rfl, st_of upd_same, fun a e => ?_, h.any, q _ (Ex.new htp)⟩⟩⟩
  obtain ⟨fs, z⟩ := h2 a e
  exact ⟨fs, Ex.new htp _ _ z⟩
theorem ev_isM {pt : Addr × Obj} {d : Option Addr} {b : Bool} {te : TE} {σ : L2.St} {H : Hp} (h : Ev te σ H (.ref pt.1)) (hd : ∀ a, d = some a → ∃ fs, H a = some (.xd fs)) : Ev (tIsM pt d b te) σ H (.bl b) := fun H1 e Q q => h H1 e _ fun H2 e2 => ⟨rfl, xs_ex (e.trans e2) hd, fun H3 e3 => q H3 (e2.trans e3)⟩
end Tc
namespace K19
open PySem L2 L2H PyProof.Rows Tc Evl
theorem scField : FnScope ["e"] ["e"] (defScope sField) := ⟨rfl, rfl, rfl, by decide +kernel, rfl, by decide +kernel, by decide +kernel⟩
/-- which field is told -/
def fieldOf (fl : List Bool) : Option Str := if ((fl.getD 8 false || (fl.getD 22 false || false))) = true then some "at" else if ((fl.getD 6 false || (fl.getD 3 false || false))) = true then some "who" else if ((fl.getD 9 false || (fl.getD 24 false || (fl.getD 16 false || (fl.getD 19 false || false))))) = true then some "number" else if ((fl.getD 5 false || (fl.getD 20 false || false))) = true then some "key" else if fl.getD 14 false = true then some "name" else if fl.getD 21 false = true then some "many" else none
def spField (K : PySem.W.Frag) (mg : Str → Option Value) : SpP := fun p vs H Q _ => ∃ (D : Addr) (d : Option Addr) (fl : List Bool) (n : Str) (b : Addr) (fs : List (Str × V)) (v : V), vs = [.ref p.1] ∧ Kd K mg D fl ∧ XfC K D ∧ IsEx D d p ∧ fieldOf fl = some n ∧ PySem.W.findIn K (.ref D) n = some none ∧ d = some b ∧ H b = some (.xd fs) ∧ fs.lookup n = some v ∧ ∀ H', Ex H H' → Q v H'
section
variable {P : Program} {w : World} {K : PySem.W.Frag} {mg : Str → Option Value} {base : Heap}
set_option maxHeartbeats 2000000 in
theorem ok_field {f : Addr} {fd : FuncData} {k : Nat} (F : Fun K "_law_field" "_law_field" sField f fd) (N : Names mg) : FnP P w K mg base CX0 (k + 1) f fd ["e"] (spField K mg) := by
  refine okP F scField (fun p vs H Q E h => ?_) (fun cdv A outer s H vs Q E p hot hr h => ?_)
  · obtain ⟨D, d, fl, n, b, fs, v, rfl, _⟩ := h
    rfl
  · obtain ⟨D, d, fl, n, b, fs, v, rfl, C, T, hx, hfo, hn, rfl, hb, hl, q⟩ := h
    have hp : HotP (cxH CX0 P w K mg base ["e"] "_law_field" (defScope sField) f cdv A outer s H E p) p := ⟨⟨hot.1, hot.2⟩, List.mem_singleton.mpr rfl⟩
    have hno : ∀ m : Str, fieldOf fl = some m → PySem.W.findIn K (.ref D) m = some none := fun m e => by
      rw [hfo] at e
      exact Option.some.inj e ▸ hn
    have hd : ∀ a, some b = some a → ∃ fs, H a = some (.xd fs) := fun a e => ⟨fs, Option.some.inj e ▸ hb⟩
    refine ⟨_, (pss_cons (ps_if (pt_val (pe_isT1 C.ck hp.2 hx (by rfl) N.isinstance (fun _ _ _ => rfl) (pv 0) (.cons (by rfl) (by decide) (C.one 8 _ rfl) (.cons (by rfl) (by decide) (C.one 22 _ rfl) .nil)))) (pss_one (ps_ret (pe_c (c := fieldOf fl = some (Str.ofString "at")) fun h => pe_xp T (hno _ h) hp.2 hx (pv 0)))) pss_nil)
      (pss_cons (ps_if (pt_val (pe_isT1 C.ck hp.2 hx (by rfl) N.isinstance (fun _ _ _ => rfl) (pv 0) (.cons (by rfl) (by decide) (C.one 6 _ rfl) (.cons (by rfl) (by decide) (C.one 3 _ rfl) .nil)))) (pss_one (ps_ret (pe_c (c := fieldOf fl = some (Str.ofString "who")) fun h => pe_xp T (hno _ h) hp.2 hx (pv 0)))) pss_nil)
      (pss_cons (ps_if (pt_val (pe_isT1 C.ck hp.2 hx (by rfl) N.isinstance (fun _ _ _ => rfl) (pv 0) (.cons (by rfl) (by decide) (C.one 9 _ rfl) (.cons (by rfl) (by decide) (C.one 24 _ rfl) (.cons (by rfl) (by decide) (C.one 16 _ rfl) (.cons (by rfl) (by decide) (C.one 19 _ rfl) .nil)))))) (pss_one (ps_ret (pe_c (c := fieldOf fl = some (Str.ofString "number")) fun h => pe_xp T (hno _ h) hp.2 hx (pv 0)))) pss_nil)
      (pss_cons (ps_if (pt_val (pe_isT1 C.ck hp.2 hx (by rfl) N.isinstance (fun _ _ _ => rfl) (pv 0) (.cons (by rfl) (by decide) (C.one 5 _ rfl) (.cons (by rfl) (by decide) (C.one 20 _ rfl) .nil)))) (pss_one (ps_ret (pe_c (c := fieldOf fl = some (Str.ofString "key")) fun h => pe_xp T (hno _ h) hp.2 hx (pv 0)))) pss_nil)
      (pss_cons (ps_if (pt_val (pe_is1 C.ck hp.2 hx (by rfl) N.isinstance (by rfl) (C.one 14 _ rfl) (pv 0))) (pss_one (ps_ret (pe_c (c := fieldOf fl = some (Str.ofString "name")) fun h => pe_xp T (hno _ h) hp.2 hx (pv 0)))) pss_nil)
      (pss_one (ps_ret (pe_ifExp (pt_val (pe_is1 C.ck hp.2 hx (by rfl) N.isinstance (by rfl) (C.one 21 _ rfl) (pv 0))) (pe_c (c := fieldOf fl = some (Str.ofString "many")) fun h => pe_xp T (hno _ h) hp.2 hx (pv 0)) pe_non)))))))), ?_⟩
    have tell : ∀ (m : Str) (G : Hp) (D' : Ends), fieldOf fl = some m → Ex H G → (∀ v H', D'.rt v H' = Q v H') → tRet (tXc (fieldOf fl = some m) (tXp p (some b) m (tVar 0))) D' [some (.ref p.1)] G := fun m G D' e x hD => by
      obtain rfl : n = m := Option.some.inj (hfo.symm.trans e)
      refine ⟨e, .ref p.1, rfl, rfl, b, fs, v, rfl, x _ _ hb, hl, ?_⟩
      rw [hD]
      exact q G x
    refine s_seq (s_if (b := (fl.getD 8 false || (fl.getD 22 false || false))) (et_B (ev_isM (ev_var rfl) (xs_ex (Ex.refl H) hd))) (fun c0 G0 y0 => tell "at" G0 _ (by unfold fieldOf; rw [if_pos c0]) (((Ex.refl H)).trans y0) fun _ _ => rfl) fun c0 G0 y0 => s_next ?_)
    have x0 := ((Ex.refl H)).trans y0
    refine s_seq (s_if (b := (fl.getD 6 false || (fl.getD 3 false || false))) (et_B (ev_isM (ev_var rfl) (xs_ex x0 hd))) (fun c1 G1 y1 => tell "who" G1 _ (by unfold fieldOf; rw [if_neg (by rw [c0]; exact Bool.false_ne_true), if_pos c1]) ((x0).trans y1) fun _ _ => rfl) fun c1 G1 y1 => s_next ?_)
    have x1 := (x0).trans y1
    refine s_seq (s_if (b := (fl.getD 9 false || (fl.getD 24 false || (fl.getD 16 false || (fl.getD 19 false || false))))) (et_B (ev_isM (ev_var rfl) (xs_ex x1 hd))) (fun c2 G2 y2 => tell "number" G2 _ (by unfold fieldOf; rw [if_neg (by rw [c0]; exact Bool.false_ne_true), if_neg (by rw [c1]; exact Bool.false_ne_true), if_pos c2]) ((x1).trans y2) fun _ _ => rfl) fun c2 G2 y2 => s_next ?_)
    have x2 := (x1).trans y2
    refine s_seq (s_if (b := (fl.getD 5 false || (fl.getD 20 false || false))) (et_B (ev_isM (ev_var rfl) (xs_ex x2 hd))) (fun c3 G3 y3 => tell "key" G3 _ (by unfold fieldOf; rw [if_neg (by rw [c0]; exact Bool.false_ne_true), if_neg (by rw [c1]; exact Bool.false_ne_true), if_neg (by rw [c2]; exact Bool.false_ne_true), if_pos c3]) ((x2).trans y3) fun _ _ => rfl) fun c3 G3 y3 => s_next ?_)
    have x3 := (x2).trans y3
    refine s_seq (s_if (b := fl.getD 14 false) (et_B (ev_is1 (ev_var rfl) (xs_ex x3 hd))) (fun c4 G4 y4 => tell "name" G4 _ (by unfold fieldOf; rw [if_neg (by rw [c0]; exact Bool.false_ne_true), if_neg (by rw [c1]; exact Bool.false_ne_true), if_neg (by rw [c2]; exact Bool.false_ne_true), if_neg (by rw [c3]; exact Bool.false_ne_true), if_pos c4]) ((x3).trans y4) fun _ _ => rfl) fun c4 G4 y4 => s_next ?_)
    have x4 := (x3).trans y4
    dsimp only
    unfold tRet tIf
    refine (et_B (ev_is1 (pt := p) (d := some b) (b := fl.getD 21 false) (te := tVar 0) (σ := [some (.ref p.1)]) (H := G4) (ev_var rfl) (xs_ex x4 hd))) G4 (Ex.refl G4) _ fun G9 y9 => ?_
    refine ite2 (fun c9 => ?_) (fun c9 => ?_)
    · exact (tell "many" G9 { nx := fun _ H' => Q .non H', rt := Q } (by unfold fieldOf; rw [if_neg (by rw [c0]; exact Bool.false_ne_true), if_neg (by rw [c1]; exact Bool.false_ne_true), if_neg (by rw [c2]; exact Bool.false_ne_true), if_neg (by rw [c3]; exact Bool.false_ne_true), if_neg (by rw [c4]; exact Bool.false_ne_true), if_pos c9]) ((x4).trans y9) fun _ _ => rfl)
    · exfalso
      unfold fieldOf at hfo
      rw [if_neg (by rw [c0]; exact Bool.false_ne_true), if_neg (by rw [c1]; exact Bool.false_ne_true), if_neg (by rw [c2]; exact Bool.false_ne_true), if_neg (by rw [c3]; exact Bool.false_ne_true), if_neg (by rw [c4]; exact Bool.false_ne_true), if_neg c9] at hfo
      cases hfo
end
end K19
namespace K19
open PySem L2 L2H PyProof.Rows Tc Evl
def spKeyI : Sp := fun vs H Q _ => ∃ k : Int, vs = [.int k] ∧ ∀ H', Ex H H' → Q (.bl (decide (0 ≤ k) && decide (k < 1000))) H'
def spWorthX (C CK CS : Addr) : Sp := fun vs H Q E => ∃ (p d g pp nn : Addr) (life at' k : Int) (kvs : List (Key × V)) (gv : List V), vs = [.ref p, .int k] ∧ TkAt C H p d g pp nn life at' kvs gv ∧ k.natAbs.log2 < 1920 ∧
  (¬ (0 ≤ k ∧ k < 1000) → ∀ b H', H b = none → Ex H H' → H' b = some (.xd [("key", .int k)]) → E (.ref CK) (some b) H') ∧
  ((0 ≤ k ∧ k < 1000) → valV kvs (.inl k) = none → ∀ b H', H b = none → Ex H H' → H' b = some (.xd [("key", .int k)]) → E (.ref CS) (some b) H') ∧
  ((0 ≤ k ∧ k < 1000) → ∀ v, valV kvs (.inl k) = some v → ∀ H', Ex H H' → Q v H')
def tFl (K : PySem.W.Frag) (mg : Str → Option Value) (a : Addr) (cls : Value) (d : Option Addr) (i : Nat) : TE := fun σ H Q => σ[i]? = some (some (.ref a)) ∧ ∃ (D : Addr) (fl : List Bool) (n : Str) (b : Addr) (fs : List (Str × V)) (v : V), cls = .ref D ∧ Kd K mg D fl ∧ XfC K D ∧ fieldOf fl = some n ∧ PySem.W.findIn K (.ref D) n = some none ∧ d = some b ∧ H b = some (.xd fs) ∧ fs.lookup n = some v ∧ ∀ H', Ex H H' → Q v H'
theorem pe_fl {X : Cx} {a : Addr} {oe : Obj} {cls : Value} {d : Option Addr} {pn : List (Addr × Obj)} {i j k : Nat} {y : Str} {p p1 pos : Pos} (hz : L2N.Zn cls d oe) (hf : ∃ vs, oe.data = .fields vs) (dF : OwnP X.prog X.w X.K X.mg X.base "_law_field" ["e"] k (spField X.K X.mg)) (hr : Room j X.A) (hj : k ≤ j) (hg : Gl X "_law_field") (he : PE (X.suite a ((a, oe) :: pn)) (.Name y p1) (tVar i)) :
    PE (X.suite a ((a, oe) :: pn)) (.Call (.Name "_law_field" p) [.Name y p1] [] pos) (tFl X.K X.mg a cls d i) := by
  have r := pe_ownP (X := X.suite a ((a, oe) :: pn)) (p := p) (pos := pos) dF (hot_suite hz hf) (roomH_mark hr _) hj hg (pa_cons he pa_nil)
  refine ⟨fun pins s σ H Q I h => r.run pins s σ H Q I ?_⟩
  obtain ⟨h1, D, fl, n, b, fs, v, e, kd, T, fo, no, ed, hb, hl, q⟩ := h
  subst e
  exact ⟨_, h1, D, d, fl, n, b, fs, v, rfl, kd, T, ⟨hz.1, hz.2.1, hf⟩, fo, no, ed, hb, hl, q⟩
theorem scWof : FnScope ["taker", "key", "found", "kind", "field", "e"] ["taker", "key"] (defScope sWof) := ⟨rfl, rfl, rfl, by decide +kernel, rfl, by decide +kernel, by decide +kernel⟩
/-- a worth asked for: what is told, the refusal, its field -/
def spWof (C : Addr) : Sp := fun vs H Q _ => ∃ (p d g pp nn : Addr) (life at' k : Int) (kvs : List (Key × V)) (gv : List V), vs = [.ref p, .int k] ∧ TkAt C H p d g pp nn life at' kvs gv ∧ k.natAbs.log2 < 1920 ∧
  (¬ (0 ≤ k ∧ k < 1000) → ∀ t H', Ex H H' → H' t = some (.tup [.non, .str "asked NoKey+", .int k]) → Q (.ref t) H') ∧
  ((0 ≤ k ∧ k < 1000) → valV kvs (.inl k) = none → ∀ t H', Ex H H' → H' t = some (.tup [.non, .str "asked NotSure+", .int k]) → Q (.ref t) H') ∧
  ((0 ≤ k ∧ k < 1000) → ∀ v, valV kvs (.inl k) = some v → ∀ t H', Ex H H' → H' t = some (.tup [v, .str "", .non]) → Q (.ref t) H')
def flNk : List Bool := (List.range 26).map fun i => decide (i = 0 ∨ i = 5 ∨ i = 25)
def flNs : List Bool := (List.range 26).map fun i => decide (i = 0 ∨ i = 20 ∨ i = 25)
theorem nk_text : Txt.join "" (kindsL flNk) = "asked NoKey+" := by decide +kernel
theorem ns_text : Txt.join "" (kindsL flNs) = "asked NotSure+" := by decide +kernel
theorem nk_field : fieldOf flNk = some "key" := by decide +kernel
theorem ns_field : fieldOf flNs = some "key" := by decide +kernel
section
variable {P : Program} {w : World} {K : PySem.W.Frag} {mg : Str → Option Value} {base : Heap}
theorem ok_keyI {f : Addr} {fd : FuncData} {kN k : Nat} (F : Fun K "is_key" "is_key" sKey f fd) (NK : ∃ t, mg "KEYS" = some (.int 1000 t)) (dN : Own P w K mg base "is_number" ["thing"] kN spNum) (hN : kN ≤ k) : FnOk P w K mg base CX0 (k + 1) f fd ["thing"] spKeyI := by
  refine F.ok scKey (fun vs H Q E h => ?_) (fun cdv A outer s H vs Q E hr h => ?_)
  · obtain ⟨kk, rfl, _⟩ := h
    rfl
  · obtain ⟨kk, rfl, q⟩ := h
    obtain ⟨tk, hK⟩ := NK
    refine ⟨_, pss_one (ps_ret (pe_and (pe_own dN hr hN (by rfl) (pa_cons (pv 0) pa_nil)) (pe_one (pe_chain op_le op_lt pe_int (pv 0) (pe_glob (v := .int 1000) (by rfl) hK ⟨_, rfl⟩))))), ?_⟩
    exact s_ret (ev_is (v := .bl (true && (decide ((0 : Int) ≤ kk) && decide (kk < 1000)))) (ev_andV (a := true) (fun G x Q' q' => ⟨.int kk, rfl, kk, rfl, fun G2 x2 => q' G2 x2⟩) fun _ => ev_chain (p := fun i j => decide (i ≤ j)) (p' := fun i j => decide (i < j)) ev_c (ev_var rfl) ev_c) (by rw [Bool.true_and])) q
set_option maxHeartbeats 1000000 in
theorem ok_worthX {f C CK CS : Addr} {fd : FuncData} {kKey kE1 kE2 k : Nat} (F : Fun K "worth" "Taker.worth" mWorth f fd) (T : Txt K mg C) (dKey : Own P w K mg base "is_key" ["thing"] kKey spKeyI) (hKey : kKey ≤ k) (dE1 : OwnE P w K mg base "NoKey" CK ["self", "key"] kE1 (spX1 CK "key")) (hE1 : kE1 + 1 ≤ k) (dE2 : OwnE P w K mg base "NotSure" CS ["self", "key"] kE2 (spX1 CS "key")) (hE2 : kE2 + 1 ≤ k) :
    FnOk P w K mg base (L2N.CX P w) (k + 1) f fd ["self", "key"] (spWorthX C CK CS) := by
  refine okN F scWorth (fun vs H Q E h => ?_) (fun cdv A outer s H vs Q E hr h => ?_)
  · obtain ⟨p, d, g, pp, nn, life, at', k, kvs, gv, rfl, _⟩ := h
    rfl
  · obtain ⟨p, d, g, pp, nn, life, at', kk, kvs, gv, rfl, S, hb, q1, q2, q3⟩ := h
    refine ⟨_, (pss_cons (ps_if (pt_not (pt_val (pe_own dKey hr hKey (by rfl) (pa_cons (pv 1) pa_nil)))) (pss_one (ps_raiseE dE1 rfl (L2N.takes_of rfl rfl rfl rfl) hr hE1 (by rfl) (pa_cons (pv 1) pa_nil))) pss_nil)
      (pss_cons (ps_if (pt_cmp (pc_dnotin (hu_of hr) (pv 1) (pe_fld (pv 0) rfl))) (pss_one (ps_raiseE dE2 rfl (L2N.takes_of rfl rfl rfl rfl) hr hE2 (by rfl) (pa_cons (pv 1) pa_nil))) pss_nil)
      (pss_one (ps_ret (pe_dget (hu_of hr) (pe_fld (pv 0) rfl) (pv 1) (fun _ _ => rfl)))))), ?_⟩
    have hk : ∀ G, Ev (tCall spKeyI [] E0 (tCons (tVar 1) tNil)) [some (.ref p), some (.int kk)] G (.bl (decide (0 ≤ kk) && decide (kk < 1000))) := fun G G1 x1 Q' q' => ⟨.int kk, rfl, kk, rfl, fun G2 x2 => q' G2 x2⟩
    refine s_seq (s_if (b := !(decide (0 ≤ kk) && decide (kk < 1000))) (et_not (et_B (hk H))) (fun z H1 x1 => ?_) fun z H1 x1 => s_next ?_)
    · have bad : ¬ (0 ≤ kk ∧ kk < 1000) := fun y => by
        rw [decide_eq_true y.1, decide_eq_true y.2] at z
        cases z
      refine ⟨.int kk, rfl, by simp, fun a na => ⟨a, kk, rfl, upd_same, hb, fun b H4 hd da h4 h5 keep => ⟨rfl, b, _, h4, h5, ?_, ?_⟩⟩⟩
      · rw [upd_ne da] at hd
        exact hd
      · rw [upd_ne da] at hd
        refine q1 bad b _ (fresh_back x1 hd) (fun c o hc => ?_) upd_same
        have hc1 := x1 c o hc
        have ca := ne_of_none hc1 na
        exact (upd_ne (ne_of_none hc1 hd)).trans ((del_ne ca).trans (keep c o ca ((upd_ne ca).trans hc1)))
    have kb : 0 ≤ kk ∧ kk < 1000 := by
      simp only [Bool.not_eq_false', Bool.and_eq_true, decide_eq_true_eq] at z
      exact z
    have S1 := S.ex x1
    dsimp only
    have ht : EvT (tTest (tDNotIn (tVar 1) (tFld K (tVar 0) "known"))) [some (.ref p), some (.int kk)] H1 (!(valV kvs (.inl kk)).isSome) := fun G x Q' q' => by
      have SG := S1.ex x
      obtain ⟨dx, hp⟩ := SG.ob
      exact ⟨.int kk, rfl, .ref p, rfl, p, C, dx, _, _, rfl, hp, T.cl, T.aK, fl_known _ _ _ _ _ _, d, _, rfl, DGet.k (k := .inl kk) SG.dc, _, rfl, q' G (Ex.refl G)⟩
    refine s_seq (s_if (b := !(valV kvs (.inl kk)).isSome) ht (fun z H2 x2 => ?_) fun z H2 x2 => s_next ?_)
    · have none' : valV kvs (.inl kk) = none := by
        cases e : valV kvs (.inl kk) with
        | none => rfl
        | some v => rw [e] at z; cases z
      have x12 := x1.trans x2
      refine ⟨.int kk, rfl, by simp, fun a na => ⟨a, kk, rfl, upd_same, hb, fun b H4 hd da h4 h5 keep => ⟨rfl, b, _, h4, h5, ?_, ?_⟩⟩⟩
      · rw [upd_ne da] at hd
        exact hd
      · rw [upd_ne da] at hd
        refine q2 kb none' b _ (fresh_back x12 hd) (fun c o hc => ?_) upd_same
        have hc1 := x12 c o hc
        have ca := ne_of_none hc1 na
        exact (upd_ne (ne_of_none hc1 hd)).trans ((del_ne ca).trans (keep c o ca ((upd_ne ca).trans hc1)))
    have S2 := S1.ex x2
    obtain ⟨dx, hp⟩ := S2.ob
    obtain ⟨v, hv⟩ : ∃ v, valV kvs (.inl kk) = some v := by
      cases e : valV kvs (.inl kk) with
      | none => rw [e] at z; cases z
      | some v => exact ⟨v, rfl⟩
    exact ⟨_, rfl, p, C, dx, _, _, rfl, hp, T.cl, T.aK, fl_known _ _ _ _ _ _, .int kk, rfl, d, v, rfl, by rw [← hv]; exact DGet.k (k := .inl kk) S2.dc, q3 kb v hv H2 (x1.trans x2)⟩
set_option maxHeartbeats 1000000 in
theorem ok_wof {f C CK CS CT : Addr} {fd : FuncData} {kW kK kF k : Nat} (F : Fun K "_law_worth_of" "_law_worth_of" sWof f fd) (T : Txt K mg C) (mT : mg "TideError" = some (.ref CT)) (E1 : ExC K mg "NoKey" CK flNk) (n1 : PySem.W.findIn K (.ref CK) "key" = some none) (e1 : PySem.W.exmOne K (.ref CK) (.ref CT) = some true) (E2 : ExC K mg "NotSure" CS flNs) (n2 : PySem.W.findIn K (.ref CS) "key" = some none) (e2 : PySem.W.exmOne K (.ref CS) (.ref CT) = some true)
    (dW : MethX P w K mg base C "worth" ["self", "key"] kW (spWorthX C CK CS)) (hW : kW ≤ k) (dK : OwnP P w K mg base "_law_kinds" ["e"] kK (spKinds K mg)) (hK : kK ≤ k) (dF : OwnP P w K mg base "_law_field" ["e"] kF (spField K mg)) (hF : kF ≤ k) :
    FnOk P w K mg base CX0 (k + 1) f fd ["taker", "key"] (spWof C) := by
  refine F.ok scWof (fun vs H Q E h => ?_) (fun cdv A outer s H vs Q E hr h => ?_)
  · obtain ⟨p, d, g, pp, nn, life, at', k, kvs, gv, rfl, _⟩ := h
    rfl
  · obtain ⟨p, d, g, pp, nn, life, at', kk, kvs, gv, rfl, S, hb, q1, q2, q3⟩ := h
    refine ⟨_, pss_cons (ps_set (i := 2) scWof.nd rfl (.inl rfl) pe_non)
      (pss_cons (ps_set (i := 3) scWof.nd rfl (.inl rfl) pe_str)
      (pss_cons (ps_set (i := 4) scWof.nd rfl (.inl rfl) pe_non)
      (pss_cons (L2N.ps_try_as (i := 5) (c := .ref CT) (tb := fun W => tAsg (tMethX C "worth" (spWorthX C CK CS) (WE W) (tVar 0) (tCons (tVar 1) tNil)) (gName 2)) (ts := fun a cls d => tPar 3 4 (tCons (tKn K mg a cls d 5) (tCons (tFl K mg a cls d 5) tNil))) rfl rfl scWof.nd rfl rfl ⟨rfl, by decide, .inl mT⟩ none_out
        (fun W pn xe tk _ => pss_one (ps_set (i := 2) scWof.nd rfl (.inl rfl) (pe_methX dW tk hr hW T.cl (pv 0) (pa_cons (pv 1) pa_nil))))
        (fun a oe cls d pn hz hf => pss_one (ps_parH (i := 3) (j := 4) (hot_suite hz hf).c scWof.nd rfl rfl (by decide) rfl rfl (pa_cons (pe_kn hz hf dK hr hK (by rfl) (pv 5)) (pa_cons (pe_fl hz hf dF hr hF (by rfl) (pv 5)) pa_nil)) rfl)))
      (pss_one (ps_ret (pe_tup (pa_cons (pv 2) (pa_cons (pv 3) (pa_cons (pv 4) pa_nil))))))))), ?_⟩
    refine q_asg ev_c fun H1 x1 => q_asg ev_c fun H2 x2 => q_asg ev_c fun H3 x3 => s_seq ?_
    have xa := (x1.trans x2).trans x3
    have S3 := S.ex xa
    obtain ⟨dx, hp⟩ := S3.ob
    have caught : ∀ (CE : Addr) (fl : List Bool) (x : Str) (tx : Str) (b : Addr) (G : Hp), ExC K mg x CE fl → PySem.W.findIn K (.ref CE) "key" = some none → PySem.W.exmOne K (.ref CE) (.ref CT) = some true → fieldOf fl = some "key" → Txt.join "" (kindsL fl) = tx → Ex H3 G → G b = some (.xd [("key", .int kk)]) → (∀ t H', Ex H H' → H' t = some (.tup [.non, .str tx, .int kk]) → Q (.ref t) H') →
        wAs K (.ref CT) 5 (fun a cls d => tPar 3 4 (tCons (tKn K mg a cls d 5) (tCons (tFl K mg a cls d 5) tNil))) (fun _ _ _ _ => False) { nx := fun σ' H' => tRet (tTup (tCons (tVar 2) (tCons (tVar 3) (tCons (tVar 4) tNil)))) { nx := fun _ H' => Q .non H', rt := Q } σ' H', rt := Q } (.ref CE) (some b) [some (.ref p), some (.int kk), some .non, some (.str ""), some .non, none] G := fun CE fl x tx b G Ex1 no em fo txt xx hb q => by
      subst txt
      exact ⟨true, em, fun _ a na => ⟨rfl, CE, fl, rfl, Ex1.kd, fun c e => ⟨_, Option.some.inj e ▸ hb⟩, fun H5 x5 => ⟨rfl, CE, fl, "key", b, _, .int kk, rfl, Ex1.kd, Ex1.xf, fo, no, rfl, x5 _ _ hb, rfl, fun H6 x6 => ⟨.str (Txt.join "" (kindsL fl)), .int kk, rfl, .non, rfl, .str (Txt.join "" (kindsL fl)), rfl, .int kk, rfl, sz_of (by simp), fun t ht => q t _ ((((xa.trans xx).trans x5).trans x6).trans (Ex.new ht)) upd_same⟩⟩⟩, fun e => by cases e⟩
    refine ⟨.ref p, rfl, p, dx, _, rfl, hp, no_worth _ _ _ _ _ _, .int kk, rfl, p, d, g, pp, nn, life, at', kk, kvs, gv, rfl, S3, hb, fun g1 b G _ xx hG => ?_, fun g1 g2 b G _ xx hG => ?_, fun g1 v hv G xx => ?_⟩
    · exact caught CK flNk "NoKey" "asked NoKey+" b G E1 n1 e1 nk_field nk_text xx hG (q1 g1)
    · exact caught CS flNs "NotSure" "asked NotSure+" b G E2 n2 e2 ns_field ns_text xx hG (q2 g1 g2)
    · exact ⟨v, rfl, .str "", rfl, .non, rfl, sz_of (by simp), fun t ht => q3 g1 v hv t _ ((xa.trans xx).trans (Ex.new ht)) upd_same⟩
end
end K19
namespace K19
open PySem L2 PyProof.Rows Tc Evl
def spInitN (C : Addr) : Sp := fun vs H Q _ => ∃ (p dx : Addr) (life at0 : Int), vs = [.ref p, .int life, .int at0, .non] ∧ H p = some (.ins C dx []) ∧
  ∀ d g pp nn H', H d = none → H g = none → (∀ a o, a ≠ p → H a = some o → H' a = some o) → TkAt C H' p d g pp nn life at0 [] [] → Q .non H'
section
variable {P : Program} {w : World} {K : PySem.W.Frag} {mg : Str → Option Value} {base : Heap}
set_option maxHeartbeats 1000000 in
theorem ok_initN {f C : Addr} {fd : FuncData} {k : Nat} (F : Fun K "__init__" "Taker.__init__" mInit f fd) (T : Txt K mg C) : FnOk P w K mg base CX0 (k + 1) f fd ["self", "life", "place", "saved"] (spInitN C) := by
  refine F.ok scInit (fun vs H Q E h => ?_) (fun cdv A outer s H vs Q E hr h => ?_)
  · obtain ⟨p, dx, life, at0, rfl, _⟩ := h
    rfl
  · obtain ⟨p, dx, life, at0, rfl, hp, q⟩ := h
    refine ⟨_, (pss_cons (ps_fld (pv 0) (pv 1) rfl)
      (pss_cons (ps_fld (pv 0) (pv 2) rfl)
      (pss_cons (ps_fld (pv 0) pe_dnewK rfl)
      (pss_cons (ps_fld (pv 0) (pe_lst pa_nil) rfl)
      (pss_cons (ps_fld (pv 0) pe_dnewK rfl)
      (pss_cons (ps_fld (pv 0) pe_dnewK rfl)
      (pss_one (ps_if (pt_cmpR op_notN1 (pv 3) pe_non (nomark _)) pss_never pss_nil)))))))), ?_⟩
    have n0 : ([] : List (Str × V)).length ≤ 0 := Nat.le_refl _
    have n1 : (putF "own_life" (.int life) []).length ≤ 1 := putF_le n0
    have n2 : (putF "at" (.int at0) (putF "own_life" (.int life) [])).length ≤ 2 := putF_le n1
    -- own_life, at
    refine s_seq ⟨.int life, rfl, .ref p, rfl, p, C, dx, [], rfl, hp, T.cl, T.aL, by show 0 < 1000; decide, ?_⟩
    refine s_seq ⟨.int at0, rfl, .ref p, rfl, p, C, dx, _, rfl, upd_same, T.cl, T.aA, by omega, ?_⟩
    rw [upd_upd]
    have bb2 : ∀ a o, a ≠ p → H a = some o → (upd H p (.ins C dx (putF "at" (.int at0) (putF "own_life" (.int life) [])))) a = some o := fun a o n h => by rw [upd_ne n]; exact h
    have hp2 : (upd H p (.ins C dx (putF "at" (.int at0) (putF "own_life" (.int life) [])))) p = some (.ins C dx (putF "at" (.int at0) (putF "own_life" (.int life) []))) := upd_same
    have free2 : ∀ a, (upd H p (.ins C dx (putF "at" (.int at0) (putF "own_life" (.int life) [])))) a = none → H a = none := fun a ha => by
      have ap : a ≠ p := fun z => by rw [z, upd_same] at ha; cases ha
      rw [upd_ne ap] at ha
      exact ha
    generalize hH2 : upd H p (.ins C dx (putF "at" (.int at0) (putF "own_life" (.int life) []))) = H2 at bb2 hp2 free2
    have nF2 := n2
    generalize hF2 : putF "at" (.int at0) (putF "own_life" (.int life) []) = F2 at hp2 nF2
    refine s_seq (fun d hd => ?_)
    have nF3 : (putF "known" (.ref d) F2).length ≤ 3 := putF_le nF2
    obtain ⟨pn2, hq2, hp3, ho2, fr2⟩ := mk_step (o := .dK []) (o2 := .ins C dx (putF "known" (.ref d) F2)) hp2 hd
    refine ⟨.ref p, rfl, p, C, dx, _, rfl, hq2, T.cl, T.aK, by omega, ?_⟩
    dsimp only
    have n02 : H d = none := free2 d hd
    have free3 : ∀ a, (upd (upd H2 d (.dK [])) p (.ins C dx (putF "known" (.ref d) F2))) a = none → H a = none := fun a ha => free2 a (by
      have ap : a ≠ p := fun z => by rw [z, upd_same] at ha; cases ha
      have av : a ≠ d := fun z => by rw [z, ho2] at ha; cases ha
      rw [upd_ne ap, upd_ne av] at ha
      exact ha)
    have bb3 : ∀ a o, a ≠ p → H a = some o → (upd (upd H2 d (.dK [])) p (.ins C dx (putF "known" (.ref d) F2))) a = some o := fun a o m h => fr2 a o m (bb2 a o m h)
    generalize hG2 : upd (upd H2 d (.dK [])) p (.ins C dx (putF "known" (.ref d) F2)) = H3 at hp3 ho2 fr2 free3 bb3
    generalize hF3 : putF "known" (.ref d) F2 = F3 at hp3 nF3
    refine s_seq ⟨Nat.zero_le _, fun g hg => ?_⟩
    have nF4 : (putF "given" (.ref g) F3).length ≤ 4 := putF_le nF3
    obtain ⟨pn3, hq3, hp4, ho3, fr3⟩ := mk_step (o := .lst []) (o2 := .ins C dx (putF "given" (.ref g) F3)) hp3 hg
    refine ⟨.ref p, rfl, p, C, dx, _, rfl, hq3, T.cl, T.aG, by omega, ?_⟩
    dsimp only
    have n03 : H g = none := free3 g hg
    have free4 : ∀ a, (upd (upd H3 g (.lst [])) p (.ins C dx (putF "given" (.ref g) F3))) a = none → H a = none := fun a ha => free3 a (by
      have ap : a ≠ p := fun z => by rw [z, upd_same] at ha; cases ha
      have av : a ≠ g := fun z => by rw [z, ho3] at ha; cases ha
      rw [upd_ne ap, upd_ne av] at ha
      exact ha)
    have bb4 : ∀ a o, a ≠ p → H a = some o → (upd (upd H3 g (.lst [])) p (.ins C dx (putF "given" (.ref g) F3))) a = some o := fun a o m h => fr3 a o m (bb3 a o m h)
    generalize hG3 : upd (upd H3 g (.lst [])) p (.ins C dx (putF "given" (.ref g) F3)) = H4 at hp4 ho3 fr3 free4 bb4
    generalize hF4 : putF "given" (.ref g) F3 = F4 at hp4 nF4
    refine s_seq (fun pp hpp => ?_)
    have nF5 : (putF "pieces" (.ref pp) F4).length ≤ 5 := putF_le nF4
    obtain ⟨pn4, hq4, hp5, ho4, fr4⟩ := mk_step (o := .dK []) (o2 := .ins C dx (putF "pieces" (.ref pp) F4)) hp4 hpp
    refine ⟨.ref p, rfl, p, C, dx, _, rfl, hq4, T.cl, T.aP, by omega, ?_⟩
    dsimp only
    have n04 : H pp = none := free4 pp hpp
    have free5 : ∀ a, (upd (upd H4 pp (.dK [])) p (.ins C dx (putF "pieces" (.ref pp) F4))) a = none → H a = none := fun a ha => free4 a (by
      have ap : a ≠ p := fun z => by rw [z, upd_same] at ha; cases ha
      have av : a ≠ pp := fun z => by rw [z, ho4] at ha; cases ha
      rw [upd_ne ap, upd_ne av] at ha
      exact ha)
    have bb5 : ∀ a o, a ≠ p → H a = some o → (upd (upd H4 pp (.dK [])) p (.ins C dx (putF "pieces" (.ref pp) F4))) a = some o := fun a o m h => fr4 a o m (bb4 a o m h)
    generalize hG4 : upd (upd H4 pp (.dK [])) p (.ins C dx (putF "pieces" (.ref pp) F4)) = H5 at hp5 ho4 fr4 free5 bb5
    generalize hF5 : putF "pieces" (.ref pp) F4 = F5 at hp5 nF5
    refine s_seq (fun nn hnn => ?_)
    have nF6 : (putF "numbers" (.ref nn) F5).length ≤ 6 := putF_le nF5
    obtain ⟨pn5, hq5, hp6, ho5, fr5⟩ := mk_step (o := .dK []) (o2 := .ins C dx (putF "numbers" (.ref nn) F5)) hp5 hnn
    refine ⟨.ref p, rfl, p, C, dx, _, rfl, hq5, T.cl, T.aN, by omega, ?_⟩
    dsimp only
    have n05 : H nn = none := free5 nn hnn
    have free6 : ∀ a, (upd (upd H5 nn (.dK [])) p (.ins C dx (putF "numbers" (.ref nn) F5))) a = none → H a = none := fun a ha => free5 a (by
      have ap : a ≠ p := fun z => by rw [z, upd_same] at ha; cases ha
      have av : a ≠ nn := fun z => by rw [z, ho5] at ha; cases ha
      rw [upd_ne ap, upd_ne av] at ha
      exact ha)
    have bb6 : ∀ a o, a ≠ p → H a = some o → (upd (upd H5 nn (.dK [])) p (.ins C dx (putF "numbers" (.ref nn) F5))) a = some o := fun a o m h => fr5 a o m (bb5 a o m h)
    generalize hG5 : upd (upd H5 nn (.dK [])) p (.ins C dx (putF "numbers" (.ref nn) F5)) = H6 at hp6 ho5 fr5 free6 bb6
    generalize hF6 : putF "numbers" (.ref nn) F5 = F6 at hp6 nF6
    have eF : F6 = flds life at0 d g pp nn := by
      rw [← hF6, ← hF5, ← hF4, ← hF3, ← hF2]
      exact flds_made life at0 d g pp nn
    rw [eF] at hp6
    have dp : d ≠ p := pn2.symm
    have gp : g ≠ p := pn3.symm
    have d4 := fr3 _ _ dp ho2
    have d5 := fr4 _ _ dp d4
    have dpp : d ≠ pp := fun z => by
      rw [z, hpp] at d4
      cases d4
    have dnn : d ≠ nn := fun z => by
      rw [z, hnn] at d5
      cases d5
    have S6 : TkAt C H6 p d g pp nn life at0 [] [] := ⟨⟨dx, hp6⟩, fr5 _ _ dp d5, fr5 _ _ gp (fr4 _ _ gp ho3), fr5 _ _ pn4.symm ho4, ho5, dpp, dnn⟩
    refine s_if (b := false) (et_is (et_test (ev_op (ev_var rfl) ev_c fun G _ Q' q' => ⟨rfl, q' G (Ex.refl G)⟩)) (by simp)) (fun z => by cases z) fun _ H7 x7 => s_next ?_
    exact q d g pp nn H7 n02 n03 (fun a o n h => x7 a o (bb6 a o n h)) (S6.ex x7)

/-- how Taker(life, place=..) is bound -/
theorem kb_place {f : Addr} {fd : FuncData} (F : FunD K "__init__" "Taker.__init__" (defArgs mInit) (defBody mInit) (defScope mInit) [] [("saved", .non)] f fd) : ∃ g, KBn K fd ["self", "life", "place", "saved"] 2 ["place"] g (fun vs zs => vs ++ zs ++ [.non]) := by
  obtain ⟨mv, h⟩ := F.kbinds0 (ps := ["self", "life", "place", "saved"]) 2 ["place"] [("saved", .non)] (fun us mv ws => us ++ ws ++ mv) (by simp) (fun q m => m) (fun r1 r2 r3 => (r1.append r3).append r2) (fun D doc pm an cdv ct us mv ws l1 l2 l3 => by
    match us, mv, ws, l1, l2, l3 with
    | [a, b], [m], [s], _, _, _ => exact ⟨_, _, _, _, _, _, rfl, rfl, rfl⟩)
  exact ⟨_, h⟩
/-- Taker(life) -/
theorem kb_new {f : Addr} {fd : FuncData} (F : FunD K "__init__" "Taker.__init__" (defArgs mInit) (defBody mInit) (defScope mInit) [] [("place", .int 0), ("saved", .non)] f fd) : ∃ ds, Vals [.int 0, .non] ds ∧ Binds K fd ["self", "life", "place", "saved"] ds :=
  F.binds0 (ps := ["self", "life", "place", "saved"]) 2 (by simp) rfl fun D doc pm an cdv ct us ks l1 l2 => by
    match us, ks, l1, l2 with
    | [a, b], [m, n], _, _ => exact ⟨_, _, _, _, _, _, rfl, rfl, _, _, _, _, _, _, rfl, rfl, rfl⟩
/-- two that are named the other way round -/
def swp {α : Type} (us ws : List α) : List α := match ws with
  | [s, p] => us ++ [p, s]
  | _ => us
theorem kb_both {f : Addr} {fd : FuncData} (F : Fun K "__init__" "Taker.__init__" mInit f fd) : KBn K fd ["self", "life", "place", "saved"] 2 ["saved", "place"] swp swp := by
  obtain ⟨o1, o2, kw, dc, m1, a1, c1, c2, sl, rfl, _, _⟩ := F.ex
  refine ⟨fun s us ws _ h1 h2 => ?_, fun {vs us zs ws} r1 r2 => ?_⟩
  · match us, ws, h1, h2 with
    | [a, b], [c, d], _, _ => exact .of_eq rfl
  · match zs, ws, r2 with
    | [], [], _ => exact r1
    | [_], [_], _ => exact r1
    | [a, b], [c, d], .cons h1 (.cons h2 .nil) => exact r1.append (.cons h2 (.cons h1 .nil))
    | _ :: _ :: _ :: _, _ :: _ :: _ :: _, _ => exact r1
end
end K19
namespace K19
open PySem L2 PyProof.Rows Tc Evl
theorem scLaw : FnScope ["script", "k", "bag", "keys", "life", "sav1", "pla1", "pairs", "taker", "due", "own", "key", "told", "at"] ["script"] (defScope sLaw) := ⟨rfl, rfl, rfl, by decide +kernel, rfl, by decide +kernel, by decide +kernel⟩
def spTakeW : Sp := fun vs H Q _ => ∃ (b : Addr) (m : Int), vs = [.ref b, .int m] ∧ Bag H b ∧ 0 < m ∧ m.natAbs.log2 < 9000 ∧ ∀ r H', Tc.Fr b H H' → 0 ≤ r → r < m → Q (.int r) H'
theorem rv_fdivW {H : Hp} {i j : Int} (h : 0 < j) (h2 : j.natAbs.log2 < 9000) : RV (rI CDivW fun i j => .int (i / j)) (.int i) (.int j) H (.int (i / j)) := fun H1 _ _ q => ⟨i, j, rfl, rfl, ⟨h, h2⟩, q H1 (Ex.refl H1)⟩
/-- by what holds between two rows -/
theorem seq_mid {a b : TS} {D : Ends} {σ : L2.St} {H : Hp} (R : L2.St → Hp → Prop) (h1 : (∀ σ' G, R σ' G → b D σ' G) → tSeq a b D σ H) (h2 : ∀ σ' G, R σ' G → b D σ' G) : tSeq a b D σ H := h1 h2
/-- a taker that was made -/
def MT (C : Addr) (H : Hp) (p : Addr) (life at' : Int) (rws sp : List (Int × Int)) : Prop := ∃ d g pp nn kvs, TkAt C H p d g pp nn life at' kvs [] ∧ KD kvs (learnS (fun _ => none) sp rws)
theorem MT.ex {C : Addr} {H H' : Hp} {p : Addr} {life at' : Int} {rws sp : List (Int × Int)} (h : MT C H p life at' rws sp) (x : Ex H H') : MT C H' p life at' rws sp := let ⟨d, g, pp, nn, kvs, a, b⟩ := h; ⟨d, g, pp, nn, kvs, a.ex x, b⟩
/-- rows and stretches that fit -/
structure SOk (rws sp : List (Int × Int)) : Prop where
  inn : ∀ r ∈ rws, inSp sp r.1
  few : rws.length ≤ 5000
  spans : spansIn sp
  keys : ∃ ks : List Int, ks.length ≤ 1000 ∧ ∀ r ∈ rws, r.1 ∈ ks
theorem SOk.nil : SOk [] [] := ⟨fun r m => (by cases m), Nat.zero_le _, fun r m => (by cases m), [], Nat.zero_le _, fun r m => by cases m⟩
/-- a taker, and what is due of it -/
def PairAt (K : PySem.W.Frag) (C : Addr) (H : Hp) (life : Int) (x : V) : Prop := ∃ (t p sv : Addr) (at' : Int) (rws sp : List (Int × Int)), x = .ref t ∧ H t = some (.tup [.ref p, .ref sv]) ∧ MT C H p life at' rws sp ∧ SvAt K H sv at' rws sp ∧ SOk rws sp
theorem PairAt.ex {K : PySem.W.Frag} {C : Addr} {H H' : Hp} {life : Int} {x : V} (h : PairAt K C H life x) (e : Ex H H') : PairAt K C H' life x := let ⟨t, p, sv, at', rws, sp, a, b, c, d, r⟩ := h; ⟨t, p, sv, at', rws, sp, a, e _ _ b, c.ex e, (Kt.ex e).sv d, r⟩
def bigR (c : Nat) (n : Nat) : List (Int × Int) := (List.range n).map fun (i : Nat) => ((0 : Int) + (i : Int) * (c : Int), ((0 : Int) + (i : Int) * (c : Int)) % 9)
theorem bigR_succ (c n : Nat) : bigR c (n + 1) = bigR c n ++ [((0 : Int) + (n : Int) * (c : Int), ((0 : Int) + (n : Int) * (c : Int)) % 9)] := by
  unfold bigR
  rw [List.range_succ, List.map_append]
  rfl
/-- what is due of a key -/
def dueK (rws sp : List (Int × Int)) (key : Int) (known : Bool) : PyData := if 0 ≤ key ∧ key < 1000 then (if known = true then .tuple [(match fRows rws key with | some z => .int z | none => .none), .str "", .none] else .tuple [.none, .str "asked NotSure+", .int key]) else .tuple [.none, .str "asked NoKey+", .int key]
theorem sd_due (rws sp : List (Int × Int)) (key : Int) (known : Bool) : sd 1 (dueK rws sp key known) = true := by
  unfold dueK
  split
  · split
    · refine sd_3 ?_ (by decide +kernel) rfl
      cases fRows rws key <;> rfl
    · exact sd_3 rfl (by decide +kernel) rfl
  · exact sd_3 rfl (by decide +kernel) rfl
section
variable {P : Program} {w : World} {K : PySem.W.Frag} {mg : Str → Option Value} {base : Heap}
theorem ok_takeW {f : Addr} {fd : FuncData} {k : Nat} (F : Fun K "_law_take" "_law_take" sTake f fd) : FnOk P w K mg base CX0 (k + 1) f fd ["bag", "many"] spTakeW := by
  refine F.ok scTake (fun vs H Q E h => ?_) (fun cdv A outer s H vs Q E hr h => ?_)
  · obtain ⟨b, m, rfl, _⟩ := h
    rfl
  · obtain ⟨b, m, rfl, ⟨x, y, hb, hx, hy, hz⟩, hm, hm2, q⟩ := h
    refine ⟨_, pss_cons (ps_if (pt_cmpR op_gt (pe_ix ix_list (pv 0) pe_int (fun _ _ => rfl)) pe_int (nomark _))
        (pss_cons (ps_set (i := 2) scTake.nd rfl (.inl rfl) (pe_op op_mod (pe_ix ix_list (pv 0) pe_int (fun _ _ => rfl)) (pv 1)))
        (pss_cons (ps_asg (pe_op op_fdivW (pe_ix ix_list (pv 0) pe_int (fun _ _ => rfl)) (pv 1)) (pg_sub (pv 0) pe_int set_list))
        (pss_one (ps_ret (pv 2))))) pss_nil)
      (pss_cons (ps_asg (pe_op op_mod (pe_op op_mul (pe_ix ix_list (pv 0) pe_int (fun _ _ => rfl)) pe_int) pe_int) (pg_sub (pv 0) pe_int set_list))
      (pss_one (ps_ret (pe_op op_mod (pe_op op_fdiv (pe_op op_mod (pe_op op_mul (pe_ix ix_list (pv 0) pe_int (fun _ _ => rfl)) (pe_ix ix_list (pv 0) pe_int (fun _ _ => rfl))) pe_int) pe_int) (pv 1))))), ?_⟩
    have hS : SqL K H b [.int x, .int y] := sq_of hb
    refine s_if (et_test (ev_op (ev_l0 (ev_var rfl) hS) ev_c rv_I0)) (fun e H1 x1 => ?_) (fun e H1 x1 => ?_)
    · refine s_seq (s_asg (ev_op (ev_l0 (ev_var rfl) (ex_l x1 hS)) (ev_var rfl) (rv_mod hm)) fun H2 x2 => s_seq ?_)
      refine s_setL (l := b) (j := 0) (x2 b _ (x1 b _ hb)) (ev_op (ev_l0 (ev_var rfl) (ex_l (x1.trans x2) hS)) (ev_var rfl) (rv_fdivW hm hm2)) (ev_var rfl) ev_c (by simp) fun H3 x3 => ?_
      refine s_ret (ev_var rfl) fun H4 x4 => q _ _ ((Fr.put ((x1.trans x2).trans x3) (Int.ediv_nonneg hx (by omega)) hy hz).trans (Fr.ex ?_ x4)) (Int.emod_nonneg _ (by omega)) (Int.emod_lt_of_pos _ hm)
      exact ⟨x / m, y, upd_same, Int.ediv_nonneg hx (by omega), hy, hz⟩
    · have hS1 := ex_l x1 hS
      refine s_next (s_seq (s_setL (l := b) (j := 1) (x1 b _ hb) (ev_op (ev_op (ev_l1 (ev_var rfl) hS1) ev_c (rv_mul (.inl ⟨by omega, by omega⟩))) ev_c (rv_mod (by decide))) (ev_var rfl) ev_c (by simp) fun H2 x2 => ?_))
      have y1 := Int.emod_nonneg (y * 48271) (b := 2147483647) (by decide)
      have y2 := Int.emod_lt_of_pos (y * 48271) (b := 2147483647) (by decide)
      generalize hyy : y * 48271 % 2147483647 = yy at y1 y2
      have hb2 : (upd H2 b (.lst [.int x, .int yy])) b = some (.lst [.int x, .int yy]) := upd_same
      have hB : Bag (upd H2 b (.lst [.int x, .int yy])) b := ⟨x, yy, upd_same, hx, y1, by omega⟩
      have hS2 : SqL K (upd H2 b (.lst [.int x, .int yy])) b [.int x, .int yy] := sq_of upd_same
      refine s_ret (ev_op (ev_op (ev_op (ev_op (ev_l1 (ev_var rfl) hS2) (ev_l1 (ev_var rfl) hS2) (rv_mul (.inl ⟨by omega, by omega⟩))) ev_c (rv_mod (by decide))) ev_c (rv_fdiv (by decide) (by decide))) (ev_var rfl) (rv_mod hm)) fun H4 x4 => ?_
      exact q _ _ ((Fr.put (x1.trans x2) hx y1 (by omega)).trans (Fr.ex hB x4)) (Int.emod_nonneg _ (by omega)) (Int.emod_lt_of_pos _ hm)
def spLaw (K : PySem.W.Frag) : Sp := fun vs H Q _ => ∃ (a : Addr) (ns : List Int), vs = [.ref a] ∧ SqL K H a (ns.map V.int) ∧ ns.length ≤ 63 ∧ ∀ H', Q (.bl true) H'
theorem ev_min2 {σ : L2.St} {H : Hp} {ta tb : TE} {i j : Int} (ha : Ev ta σ H (.int i)) (hb : Ev tb σ H (.int j)) : Ev (tCB (fun xs H Q => ∃ i j, xs = [.int i, .int j] ∧ Q (.int (if j < i then j else i)) H) (tCons ta (tCons tb tNil))) σ H (.int (if j < i then j else i)) :=
  ev_cb (ea_cons ha (ea_cons hb ea_nil)) fun H1 _ _ q => ⟨i, j, rfl, q H1 (Ex.refl H1)⟩
theorem dp_no {K : PySem.W.Frag} {H : Hp} {p : Addr} {s : Str} {i : Int} (h : H p = some (.tup [.non, .str s, .int i])) : Dp K H (.ref p) (.tuple [.none, .str s, .int i]) := .tup (st_of h) (.cons .non (.cons (.str s) (.cons (.int i) .nil)))
theorem log_small {i : Int} (h : -1000 ≤ i ∧ i ≤ 10 ^ 39) : i.natAbs.log2 < 1920 := by
  by_cases z : i.natAbs = 0
  · rw [z]
    decide
  · refine (Nat.log2_lt z).mpr (Nat.lt_of_lt_of_le (m := 10 ^ 39 + 1) ?_ (Nat.pow_le_pow_right (n := 2) (by decide) (show 200 ≤ 1920 by decide) |> Nat.le_trans (by decide)))
    omega
theorem exFr {b : Addr} {H0 H1 H2 : Hp} (x : Ex H0 H1) (hb : H0 b = none) (f : Tc.Fr b H1 H2) : Ex H0 H2 := fun a u h => f.at (x a u h) fun z => by
  rw [z, hb] at h
  cases h
set_option maxHeartbeats 8000000 in
theorem ok_law {f C fI : Addr} {fd fdI : FuncData} {kI kN kB kT kTw kKs kSv kTn kTs kWo k : Nat} {gI gP : List Value → List Value → List Value} {dsN : List Value} (F : Fun K "law" "law" sLaw f fd) (N : Names mg) (T : Txt K mg C) (mkT : Mk K C fI) (FI : FnOk P w K mg base CX0 kI fI fdI ["self", "life", "place", "saved"] (spInit K C)) (hI : kI + 1 ≤ k) (FN : FnOk P w K mg base CX0 kN fI fdI ["self", "life", "place", "saved"] (spInitN C)) (hN : kN + 1 ≤ k) (bI : KBn K fdI ["self", "life", "place", "saved"] 2 ["saved"] gI (fun vs zs => vs ++ [.int 0] ++ zs)) (bP : KBn K fdI ["self", "life", "place", "saved"] 2 ["place"] gP (fun vs zs => vs ++ zs ++ [.non])) (vN : Vals [.int 0, .non] dsN) (bN : Binds K fdI ["self", "life", "place", "saved"] dsN) (bB : KBn K fdI ["self", "life", "place", "saved"] 2 ["saved", "place"] swp swp)
    (dB : Own P w K mg base "_law_bag" ["script", "k"] kB (spBag K)) (hB : kB ≤ k) (dT : Own P w K mg base "_law_take" ["bag", "many"] kT spTake) (hT : kT ≤ k) (dTw : Own P w K mg base "_law_take" ["bag", "many"] kTw spTakeW) (hTw : kTw ≤ k) (dKs : Own P w K mg base "_law_keys" ["bag"] kKs spKeysQ) (hKs : kKs ≤ k) (dSv : Own P w K mg base "_law_saved" ["bag", "keys"] kSv (spSv K)) (hSv : kSv ≤ k) (dTn : Own P w K mg base "_law_taker_new" ["life", "sav1"] kTn (spTn K)) (hTn : kTn ≤ k) (dTs : Own P w K mg base "_law_taker_so" ["taker", "own"] kTs (spTs K C)) (hTs : kTs ≤ k) (dWo : Own P w K mg base "_law_worth_of" ["taker", "key"] kWo (spWof C)) (hWo : kWo ≤ k) : FnOk P w K mg base CX0 (k + 1) f fd ["script"] (spLaw K) := by
  refine F.ok scLaw (fun vs H Q E h => ?_) (fun cdv A outer s H vs Q E hr h => ?_)
  · obtain ⟨a, ns, rfl, _⟩ := h
    rfl
  · obtain ⟨a, ns, rfl, hA, hn, q⟩ := h
    refine ⟨_, pss_cons (ps_for PassesOwn.never rfl (pi_range1 rfl N.range (pa_cons (pe_op op_add pe_int (pe_callB (call_min2 rfl) (by rfl) N.min boot_min (pa_cons (pe_callB call_len_seq (by rfl) N.len PySem.boot_len (pa_cons (pv 0) pa_nil)) (pa_cons pe_int pa_nil)))) pa_nil)) (pg_name (i := 1) scLaw.nd rfl (.inl rfl)) (pss_cons (ps_set (i := 2) scLaw.nd rfl (.inl rfl) (pe_own dB hr hB (by rfl) (pa_cons (pv 0) (pa_cons (pv 1) pa_nil))))
      (pss_cons (ps_set (i := 3) scLaw.nd rfl (.inl rfl) (pe_own dKs hr hKs (by rfl) (pa_cons (pv 2) pa_nil)))
      (pss_cons (ps_set (i := 4) scLaw.nd rfl (.inl rfl) (pe_op op_add pe_int (pe_own dTw hr hTw (by rfl) (pa_cons (pv 2) (pa_cons (pe_ix ix_list (pe_lst (pa_cons pe_int (pa_cons (pe_op op_pow pe_int pe_int) pa_nil))) (pe_own dT hr hT (by rfl) (pa_cons (pv 2) (pa_cons pe_int pa_nil))) (fun _ _ => rfl)) pa_nil)))))
      (pss_cons (ps_set (i := 5) scLaw.nd rfl (.inl rfl) (pe_own dSv hr hSv (by rfl) (pa_cons (pv 2) (pa_cons (pv 3) pa_nil))))
      (pss_cons (ps_if (pt_cmpR op_eq (pe_own dT hr hT (by rfl) (pa_cons (pv 2) (pa_cons pe_int pa_nil))) pe_int (nomark _)) (pss_one (ps_set (i := 5) scLaw.nd rfl (.inl rfl) (pe_tup (pa_cons pe_int (pa_cons (pe_callTy cr_tupP (by rfl) N.tuple boot_tuple (pa_cons (pe_lc (own := [("at", 13)]) (g := gName 13) (tt := tYes) (te := tTup (tCons (tVar 13) (tCons (tOp (rI (fun _ j => 0 < j) fun i j => .int (i % j)) (tVar 13) (tC (.int 9))) tNil))) rfl scLaw.nd (pi_range3 rfl N.range (pa_cons pe_int (pa_cons pe_int (pa_cons (pe_op op_add pe_int (pe_own dT hr hT (by rfl) (pa_cons (pv 2) (pa_cons pe_int pa_nil)))) pa_nil)))) (blkOk_by (N := ["script", "k", "bag", "keys", "life", "sav1", "pla1", "pairs", "taker", "due", "own", "key", "told", "at"]) (sc := defScope sLaw) (by decide +kernel)) (fun _ _ _ _ _ => pg_name (i := 13) scLaw.nd rfl (Or.inl rfl)) (fun _ _ _ _ _ => pts_nil) (fun _ _ _ _ _ => (pe_tup (pa_cons (pv 13) (pa_cons (pe_op op_mod (pv 13) pe_int) pa_nil))))) pa_nil)) (pa_cons (pe_tupF (pa_cons (pe_tup (pa_cons pe_int (pa_cons pe_int pa_nil))) pa_nil)) pa_nil)))))) pss_nil)
      (pss_cons (ps_set (i := 6) scLaw.nd rfl (.inl rfl) (pe_own dT hr hT (by rfl) (pa_cons (pv 2) (pa_cons pe_int pa_nil))))
      (pss_cons (ps_set (i := 7) scLaw.nd rfl (.inl rfl) (pe_lst (pa_cons (pe_tup (pa_cons (pe_makeK mkT FI (hr.mono hI) (by rfl) T.mgC bI pass0 (pa_cons (pv 4) pa_nil) (pk_cons (pv 5) pk_nil)) (pa_cons (pv 5) pa_nil))) (pa_cons (pe_tup (pa_cons (pe_makeK mkT FN (hr.mono hN) (by rfl) T.mgC bP pass0 (pa_cons (pv 4) pa_nil) (pk_cons (pv 6) pk_nil)) (pa_cons (pe_tup (pa_cons (pv 6) (pa_cons (pe_tupF pa_nil) (pa_cons (pe_tupF pa_nil) pa_nil)))) pa_nil))) pa_nil))))
      (pss_cons (ps_set (i := 7) scLaw.nd rfl (.inl rfl) (pe_op op_cat (pv 7) (pe_lst (pa_cons (pe_tup (pa_cons (pe_make mkT FN (hr.mono hN) (by rfl) T.mgC bN vN pass0 (pa_cons (pv 4) pa_nil)) (pa_cons (pe_tup (pa_cons pe_int (pa_cons (pe_tupF pa_nil) (pa_cons (pe_tupF pa_nil) pa_nil)))) pa_nil))) (pa_cons (pe_tup (pa_cons (pe_makeK mkT FI (hr.mono hI) (by rfl) T.mgC bB pass0 (pa_cons (pv 4) pa_nil) (pk_cons (pv 5) (pk_cons pe_int pk_nil))) (pa_cons (pv 5) pa_nil))) pa_nil)))))
      (pss_one (ps_for PassesOwn.never rfl (pi_list (pv 7)) (pg_tup rfl (pgs_cons (pg_name (i := 8) scLaw.nd rfl (.inl rfl)) (pgs_cons (pg_name (i := 9) scLaw.nd rfl (.inl rfl)) pgs_nil))) (pss_cons (ps_set (i := 10) scLaw.nd rfl (.inl rfl) (pe_own dTn hr hTn (by rfl) (pa_cons (pv 4) (pa_cons (pv 9) pa_nil))))
      (pss_cons (ps_if (pt_not (pt_val (pe_own dTs hr hTs (by rfl) (pa_cons (pv 8) (pa_cons (pv 10) pa_nil))))) (pss_one (ps_ret pe_bl)) pss_nil)
      (pss_one (ps_for PassesOwn.never rfl (pi_list (pe_op op_cat (pv 3) (pe_lst (pa_cons (pe_un un_neg pe_int) (pa_cons pe_int (pa_cons (pe_op op_pow pe_int pe_int) (pa_cons pe_int pa_nil))))))) (pg_name (i := 11) scLaw.nd rfl (.inl rfl)) (pss_cons (ps_set (i := 12) scLaw.nd rfl (.inl rfl) (pe_tup (pa_cons (pe_dget2 (hu_of hr) (pe_callTy (cr_dictT rfl) (by rfl) N.dict boot_dict (pa_cons (pe_ix ix_tup (pv 9) pe_int (fun _ _ => rfl)) pa_nil)) (pv 11) pe_non ⟨rfl, rfl, rfl, rfl⟩) (pa_cons pe_str (pa_cons pe_non pa_nil)))))
      (pss_cons (ps_if (pt_cmp (pc_dnotin (hu_of hr) (pv 11) (pe_dget (hu_of hr) (pv 10) pe_str (fun _ _ => rfl)))) (pss_one (ps_set (i := 12) scLaw.nd rfl (.inl rfl) (pe_tup (pa_cons pe_non (pa_cons pe_str (pa_cons (pv 11) pa_nil)))))) pss_nil)
      (pss_cons (ps_if (pt_not (pt_chain op_le op_lt pe_int (pv 11) pe_int)) (pss_one (ps_set (i := 12) scLaw.nd rfl (.inl rfl) (pe_tup (pa_cons pe_non (pa_cons pe_str (pa_cons (pv 11) pa_nil)))))) pss_nil)
      (pss_one (ps_if (pt_cmpR (op_neD hr.units) (pe_own dWo hr hWo (by rfl) (pa_cons (pv 8) (pa_cons (pv 11) pa_nil))) (pv 12) (nomark _)) (pss_one (ps_ret pe_bl)) pss_nil))))))))))))))))))))
      (pss_one (ps_ret pe_bl)), ?_⟩
    have hmn : 0 ≤ 1 + (if (15 : Int) < ((ns.map V.int).length : Int) then (15 : Int) else ((ns.map V.int).length : Int)) ∧ 1 + (if (15 : Int) < ((ns.map V.int).length : Int) then (15 : Int) else ((ns.map V.int).length : Int)) ≤ 100 := by
      split <;> omega
    refine s_seq (s_forR1 (n := 1 + (if (15 : Int) < ((ns.map V.int).length : Int) then (15 : Int) else ((ns.map V.int).length : Int))) (ea_cons (ev_op ev_c (ev_min2 (ev_len (ev_var rfl) hA) ev_c) rv_add) ea_nil) ⟨hmn.1, by omega⟩
      (fun i σ' H' => ∃ y1 y2 y3 y4 y5 y6 y7 y8 y9 y10 y11 y12 y13, σ' = [some (.ref a), y1, y2, y3, y4, y5, y6, y7, y8, y9, y10, y11, y12, y13] ∧ SqL K H' a (ns.map V.int)) (fun H1 x1 => ⟨none, none, none, none, none, none, none, none, none, none, none, none, none, rfl, ex_l x1 hA⟩) (fun i σ' H' hi p => ?_) (fun σ' H' p => ?_))
    · obtain ⟨y1, y2, y3, y4, y5, y6, y7, y8, y9, y10, y11, y12, y13, rfl, hA'⟩ := p
      have hi2 : i ≤ 1000 := by omega
      refine s_seq ⟨.ref a, rfl, .int (i : Int), rfl, a, ns, i, rfl, hA', hi2, fun b H1 hb x1 hB1 => g_name ?_⟩
      dsimp only
      refine s_seq ⟨.ref b, rfl, b, rfl, hB1, fun lk ks H2 f2 hK2 h64 => g_name ?_⟩
      dsimp only
      have hkb : ∀ k ∈ ks, 0 ≤ k ∧ k < 1000 := hK2.bd
      refine s_seq ⟨.ref b, rfl, ?_⟩
      refine item_new (K := K) (b := b) (xs := [.int 5, .int (10 ^ (20 : Int).toNat)]) (el_lst (ea_cons ev_c (ea_cons (ev_op ev_c ev_c (rv_pow ⟨by decide, by decide, by decide⟩)) ea_nil)) (by simp)) f2.bag (fun G g Q q => take_of (m := 2) g.bag (ea_cons (ev_var rfl) (ea_cons ev_c ea_nil)) (by decide) (by decide) q) fun v H3 f3 hv => ?_
      obtain ⟨m, rfl, m0, m9⟩ : ∃ m : Int, v = .int m ∧ 0 < m ∧ m.natAbs.log2 < 9000 := by
        simp only [List.mem_cons, List.not_mem_nil, or_false] at hv
        rcases hv with h | h
        · exact ⟨5, h, by decide, by decide⟩
        · exact ⟨_, h, by decide, by decide +kernel⟩
      refine ⟨b, m, rfl, f3.bag, m0, m9, fun r H4 f4 r0 r1 => ⟨1, r, rfl, rfl, g_name ?_⟩⟩
      dsimp only
      generalize 1 + r = life
      have f24 := f3.trans f4
      have hK4 := hK2.fr f24
      refine s_seq ⟨.ref b, rfl, .ref lk, rfl, b, lk, ks, rfl, f4.bag, hK4, by omega, fun sv0 at0 rws0 sp0 H5 f5 _ sa0 a00 a01 hrw0 rl0 hsp0 => g_name ?_⟩
      dsimp only
      /- what was saved -/
      refine seq_mid (fun σ' G => ∃ sv at2 rws sp, σ' = [some (.ref a), some (.int (i : Int)), some (.ref b), some (.ref lk), some (.int life), some (.ref sv), y6, y7, y8, y9, y10, y11, y12, y13] ∧ Tc.Fr b H5 G ∧ SvAt K G sv at2 rws sp ∧ SOk rws sp) (fun go => ?_) (fun σ' G p => ?_)
      · refine s_seq (take_of (b := b) (m := 5) f5.bag (ea_cons (ev_var rfl) (ea_cons ev_c ea_nil)) (by decide) (by decide) fun r2 H6 f6 _ _ => ⟨rfl, _, rfl, ite2 (fun c => ?_) (fun c => s_next (go _ _ ⟨sv0, at0, rws0, sp0, rfl, f6, (Kt.fr f5.bag f6).sv sa0, ⟨fun r m => (hrw0 r m).2, rl0, hsp0, ks, by omega, fun r m => (hrw0 r m).1⟩⟩))⟩)
        refine take_of (b := b) (m := 3) f6.bag (ea_cons (ev_var rfl) (ea_cons ev_c ea_nil)) (by decide) (by decide) fun r3 H7 f7 r30 r31 => ?_
        obtain ⟨c3, n3, ec, rg, n1000, fit⟩ : ∃ (c n : Nat), (1 : Int) + r3 = (c : Int) ∧ RgC 0 1000 (c : Int) n ∧ n ≤ 1000 ∧ ∀ i, i < n → i * c < 1000 := by
          rcases (show r3 = 0 ∨ r3 = 1 ∨ r3 = 2 by omega) with rfl | rfl | rfl
          · exact ⟨1, 1000, rfl, ⟨by decide, by decide, by decide +kernel, by decide +kernel⟩, by decide, fun i h => by omega⟩
          · exact ⟨2, 500, rfl, ⟨by decide, by decide, by decide +kernel, by decide +kernel⟩, by decide, fun i h => by omega⟩
          · exact ⟨3, 334, rfl, ⟨by decide, by decide, by decide +kernel, by decide +kernel⟩, by decide, fun i h => by omega⟩
        refine ⟨1, r3, rfl, rfl, 0, 1000, (c3 : Int), n3, by rw [← ec], rg, fun Dl hDl => ?_⟩
        refine lc_step (lo := 0) (c := (c3 : Int)) (n := n3) (fun j G => ∃ vs, Ex H7 G ∧ G Dl = some (.lst vs) ∧ vs.length = j ∧ DpAll K (hid Dl G) vs ((bigR c3 j).map Tc.pairD)) ⟨[], Ex.new hDl, upd_same, rfl, .nil⟩ (fun j G hj ⟨vs, xG, hv, vl, dv⟩ => ⟨rfl, ?_⟩) (fun G ⟨vs, xG, hv, vl, dv⟩ => ?_)
        · refine iteT (B := ∃ vs, Ex H7 G ∧ G Dl = some (.lst vs) ∧ vs.length = j + 1 ∧ DpAll K (hid Dl G) vs ((bigR c3 (j + 1)).map Tc.pairD)) ?_
          refine ⟨.int ((0 : Int) + (j : Int) * (c3 : Int)), rfl, .int ((0 : Int) + (j : Int) * (c3 : Int)), rfl, _, 9, rfl, rfl, (show (0 : Int) < 9 by decide), sz_of (by simp), fun t ht => ?_⟩
          have htD : t ≠ Dl := fun z => by
            rw [z, hv] at ht
            cases ht
          have x5 : Ex G (upd G t (.tup [.int ((0 : Int) + (j : Int) * (c3 : Int)), .int (((0 : Int) + (j : Int) * (c3 : Int)) % 9)])) := Ex.new ht
          refine ⟨vs, x5 Dl _ hv, sz_lt (by omega), vs ++ [.ref t], (xG.trans x5).mut hDl, upd_same, by simp [vl], ?_⟩
          rw [hid_upd, bigR_succ, List.map_append]
          exact dps_app (dps_same (ex_hid x5) _ _ dv) (.cons (.tup (st_of (hid_at upd_same htD)) (.cons (.int _) (.cons (.int _) .nil))) .nil)
        · have dv' := dps_same (hid_same Dl G) _ _ dv
          refine ⟨Dl, vs, rfl, sq_of hv, fun pT oT npT odT => ⟨sz_of (by simp), fun ti nti => ⟨sz_of (by simp), fun pS oS npS odS => ⟨sz_of (by simp), fun sv nsv => ?_⟩⟩⟩⟩
          have zYa1 : Ex G (upd G pT (.frz oT (.tup vs))) := Ex.new npT
          have gpT : (upd G pT (.frz oT (.tup vs))) pT = some (.frz oT (.tup vs)) := upd_same
          generalize upd G pT (.frz oT (.tup vs)) = Ya1 at nti npS nsv zYa1 gpT ⊢
          have zYa2 : Ex Ya1 (upd Ya1 ti (.tup [.int 0, .int 1000])) := Ex.new nti
          have gti : (upd Ya1 ti (.tup [.int 0, .int 1000])) ti = some (.tup [.int 0, .int 1000]) := upd_same
          generalize upd Ya1 ti (.tup [.int 0, .int 1000]) = Ya2 at npS nsv zYa2 gti ⊢
          have zYa3 : Ex Ya2 (upd Ya2 pS (.frz oS (.tup [.ref ti]))) := Ex.new npS
          have gpS : (upd Ya2 pS (.frz oS (.tup [.ref ti]))) pS = some (.frz oS (.tup [.ref ti])) := upd_same
          generalize upd Ya2 pS (.frz oS (.tup [.ref ti])) = Ya3 at nsv zYa3 gpS ⊢
          have zYa4 : Ex Ya3 (upd Ya3 sv (.tup [.int 3, .ref pT, .ref pS])) := Ex.new nsv
          have gsv : (upd Ya3 sv (.tup [.int 3, .ref pT, .ref pS])) sv = some (.tup [.int 3, .ref pT, .ref pS]) := upd_same
          generalize upd Ya3 sv (.tup [.int 3, .ref pT, .ref pS]) = Ya4 at  zYa4 gsv ⊢
          have f67 := f6.trans f7
          have zz := ((zYa1.trans zYa2).trans zYa3).trans zYa4
          refine go _ _ ⟨sv, 3, bigR c3 n3, [(0, 1000)], rfl, f67.trans (Fr.ex f67.bag (xG.trans zz)), ⟨pT, pS, st_of gsv, ⟨vs, ⟨oT, ((zYa2.trans zYa3).trans zYa4) _ _ gpT, odT⟩, dps_same zz _ _ dv'⟩, ⟨[.ref ti], ⟨oS, zYa4 _ _ gpS, odS⟩, .cons (.tup (st_of ((zYa3.trans zYa4) _ _ gti)) (.cons (.int 0) (.cons (.int 1000) .nil))) .nil⟩⟩, ⟨fun r m => ?_, by unfold bigR; rw [List.length_map, List.length_range]; omega, fun r m => by rw [List.mem_singleton.mp m]; decide, (bigR c3 n3).map (·.1), by unfold bigR; rw [List.length_map, List.length_map, List.length_range]; omega, fun r m => List.mem_map_of_mem m⟩⟩
          obtain ⟨j, hj, rfl⟩ := List.mem_map.mp m
          have h1 := fit j (List.mem_range.mp hj)
          refine ⟨(0, 1000), List.mem_singleton.mpr rfl, ?_, ?_⟩
          · show (0 : Int) ≤ 0 + (j : Int) * (c3 : Int)
            rw [← Int.natCast_mul]
            omega
          · show (0 : Int) + (j : Int) * (c3 : Int) < 1000
            rw [← Int.natCast_mul]
            omega
      · obtain ⟨sv, at2, rws, sp, rfl, f6, sa6, ok⟩ := p
        refine s_seq (take_of (b := b) (m := 300) f6.bag (ea_cons (ev_var rfl) (ea_cons ev_c ea_nil)) (by decide) (by decide) fun pla H7 f7 _ _ => g_name ?_)
        dsimp only
        have sa1 := (Kt.fr f6.bag f7).sv sa6
        have x07 : Ex H' H7 := exFr x1 hb (((f2.trans f24).trans f5).trans (f6.trans f7))
        have hlk7 : H7 lk = some (.lst (ks.map V.int)) := ((hK4.fr f5).fr (f6.trans f7)).h
        refine s_seq ?_
        refine ⟨.int life, rfl, .ref sv, rfl, rfl, rfl, fun p1 dx1 hp1 hdx1 dxp1 => ?_⟩
        have w1 : Ex H7 (upd (upd H7 dx1 (.own p1)) p1 (.ins C dx1 [])) := (Ex.new hdx1).trans (Ex.new (by rw [upd_ne dxp1.symm]; exact hp1))
        have v1 : (upd (upd H7 dx1 (.own p1)) p1 (.ins C dx1 [])) p1 = some (.ins C dx1 []) := upd_same
        generalize upd (upd H7 dx1 (.own p1)) p1 (.ins C dx1 []) = Ha1 at w1 v1 ⊢
        refine ⟨p1, dx1, sv, life, 0, at2, rws, sp, rfl, v1, dp_same w1 _ _ sa1.dp, ok.few, ok.spans, fun d1 g1 pp1 nn1 kvs1 Hc1 nd1 ng1 keep1 Tk1 kd1 => ⟨rfl, ?_⟩⟩
        have xc1 : Ex H7 Hc1 := fun a u h => keep1 a u (fun z => by
          rw [z, hp1] at h
          cases h) (w1 a u h)
        have M1 : MT C Hc1 p1 life at2 rws sp := ⟨d1, g1, pp1, nn1, kvs1, Tk1, kd1⟩
        refine ⟨.ref sv, rfl, sz_of (by simp), fun t1 nt1 => ?_⟩
        have zYb1 : Ex Hc1 (upd Hc1 t1 (.tup [.ref p1, .ref sv])) := Ex.new nt1
        have gt1 : (upd Hc1 t1 (.tup [.ref p1, .ref sv])) t1 = some (.tup [.ref p1, .ref sv]) := upd_same
        generalize upd Hc1 t1 (.tup [.ref p1, .ref sv]) = Yb1 at zYb1 gt1 ⊢
        refine ⟨.int life, rfl, .int pla, rfl, rfl, rfl, fun p2 dx2 hp2 hdx2 dxp2 => ?_⟩
        have w2 : Ex Yb1 (upd (upd Yb1 dx2 (.own p2)) p2 (.ins C dx2 [])) := (Ex.new hdx2).trans (Ex.new (by rw [upd_ne dxp2.symm]; exact hp2))
        have v2 : (upd (upd Yb1 dx2 (.own p2)) p2 (.ins C dx2 [])) p2 = some (.ins C dx2 []) := upd_same
        generalize upd (upd Yb1 dx2 (.own p2)) p2 (.ins C dx2 []) = Ha2 at w2 v2 ⊢
        refine ⟨p2, dx2, life, pla, rfl, v2, fun d2 g2 pp2 nn2 Hc2 nd2 ng2 keep2 Tk2 => ⟨rfl, ?_⟩⟩
        have xc2 : Ex Yb1 Hc2 := fun a u h => keep2 a u (fun z => by
          rw [z, hp2] at h
          cases h) (w2 a u h)
        have M2 : MT C Hc2 p2 life pla [] [] := ⟨d2, g2, pp2, nn2, [], Tk2, KD.nil⟩
        refine ⟨.int pla, rfl, Nat.zero_le _, fun e1 oe1 ne1 od1 => ⟨Nat.zero_le _, fun e2 oe2 ne2 od2 => ⟨sz_of (by simp), fun s2 ns2 => ⟨sz_of (by simp), fun t2 nt2 => ⟨sz_of (by simp), fun l1 nl1 => g_name ?_⟩⟩⟩⟩⟩
        have zYc1 : Ex Hc2 (upd Hc2 e1 (.frz oe1 (.tup []))) := Ex.new ne1
        have ge1 : (upd Hc2 e1 (.frz oe1 (.tup []))) e1 = some (.frz oe1 (.tup [])) := upd_same
        generalize upd Hc2 e1 (.frz oe1 (.tup [])) = Yc1 at ne2 ns2 nt2 nl1 zYc1 ge1 ⊢
        have zYc2 : Ex Yc1 (upd Yc1 e2 (.frz oe2 (.tup []))) := Ex.new ne2
        have ge2 : (upd Yc1 e2 (.frz oe2 (.tup []))) e2 = some (.frz oe2 (.tup [])) := upd_same
        generalize upd Yc1 e2 (.frz oe2 (.tup [])) = Yc2 at ns2 nt2 nl1 zYc2 ge2 ⊢
        have zYc3 : Ex Yc2 (upd Yc2 s2 (.tup [.int pla, .ref e1, .ref e2])) := Ex.new ns2
        have gs2 : (upd Yc2 s2 (.tup [.int pla, .ref e1, .ref e2])) s2 = some (.tup [.int pla, .ref e1, .ref e2]) := upd_same
        generalize upd Yc2 s2 (.tup [.int pla, .ref e1, .ref e2]) = Yc3 at nt2 nl1 zYc3 gs2 ⊢
        have zYc4 : Ex Yc3 (upd Yc3 t2 (.tup [.ref p2, .ref s2])) := Ex.new nt2
        have gt2 : (upd Yc3 t2 (.tup [.ref p2, .ref s2])) t2 = some (.tup [.ref p2, .ref s2]) := upd_same
        generalize upd Yc3 t2 (.tup [.ref p2, .ref s2]) = Yc4 at nl1 zYc4 gt2 ⊢
        have zYc5 : Ex Yc4 (upd Yc4 l1 (.lst [.ref t1, .ref t2])) := Ex.new nl1
        have gl1 : (upd Yc4 l1 (.lst [.ref t1, .ref t2])) l1 = some (.lst [.ref t1, .ref t2]) := upd_same
        generalize upd Yc4 l1 (.lst [.ref t1, .ref t2]) = Yc5 at zYc5 gl1 ⊢
        dsimp only
        have x2c : Ex Hc2 Yc5 := (((zYc1.trans zYc2).trans zYc3).trans zYc4).trans zYc5
        have x7c : Ex H7 Yc5 := ((xc1.trans zYb1).trans xc2).trans x2c
        have P1 : PairAt K C Yc5 life (.ref t1) := ⟨t1, p1, sv, at2, rws, sp, rfl, (xc2.trans x2c) _ _ gt1, M1.ex ((zYb1.trans xc2).trans x2c), (Kt.ex x7c).sv sa1, ok⟩
        have P2 : PairAt K C Yc5 life (.ref t2) := ⟨t2, p2, s2, pla, [], [], rfl, zYc5 _ _ gt2, M2.ex x2c, ⟨e1, e2, st_of ((zYc4.trans zYc5) _ _ gs2), ⟨[], ⟨oe1, (((zYc2.trans zYc3).trans zYc4).trans zYc5) _ _ ge1, od1⟩, .nil⟩, ⟨[], ⟨oe2, ((zYc3.trans zYc4).trans zYc5) _ _ ge2, od2⟩, .nil⟩⟩, SOk.nil⟩
        refine s_seq ⟨.ref l1, rfl, ?_⟩
        refine ⟨.int life, rfl, fun p3 dx3 hp3 hdx3 dxp3 => ?_⟩
        have w3 : Ex Yc5 (upd (upd Yc5 dx3 (.own p3)) p3 (.ins C dx3 [])) := (Ex.new hdx3).trans (Ex.new (by rw [upd_ne dxp3.symm]; exact hp3))
        have v3 : (upd (upd Yc5 dx3 (.own p3)) p3 (.ins C dx3 [])) p3 = some (.ins C dx3 []) := upd_same
        generalize upd (upd Yc5 dx3 (.own p3)) p3 (.ins C dx3 []) = Ha3 at w3 v3 ⊢
        refine ⟨p3, dx3, life, 0, rfl, v3, fun d3 g3 pp3 nn3 Hc3 nd3 ng3 keep3 Tk3 => ⟨rfl, ?_⟩⟩
        have xc3 : Ex Yc5 Hc3 := fun a u h => keep3 a u (fun z => by
          rw [z, hp3] at h
          cases h) (w3 a u h)
        have M3 : MT C Hc3 p3 life 0 [] [] := ⟨d3, g3, pp3, nn3, [], Tk3, KD.nil⟩
        refine ⟨Nat.zero_le _, fun e3 oe3 ne3 od3 => ⟨Nat.zero_le _, fun e4 oe4 ne4 od4 => ⟨sz_of (by simp), fun s3 ns3 => ⟨sz_of (by simp), fun t3 nt3 => ?_⟩⟩⟩⟩
        have zYd1 : Ex Hc3 (upd Hc3 e3 (.frz oe3 (.tup []))) := Ex.new ne3
        have ge3 : (upd Hc3 e3 (.frz oe3 (.tup []))) e3 = some (.frz oe3 (.tup [])) := upd_same
        generalize upd Hc3 e3 (.frz oe3 (.tup [])) = Yd1 at ne4 ns3 nt3 zYd1 ge3 ⊢
        have zYd2 : Ex Yd1 (upd Yd1 e4 (.frz oe4 (.tup []))) := Ex.new ne4
        have ge4 : (upd Yd1 e4 (.frz oe4 (.tup []))) e4 = some (.frz oe4 (.tup [])) := upd_same
        generalize upd Yd1 e4 (.frz oe4 (.tup [])) = Yd2 at ns3 nt3 zYd2 ge4 ⊢
        have zYd3 : Ex Yd2 (upd Yd2 s3 (.tup [.int 0, .ref e3, .ref e4])) := Ex.new ns3
        have gs3 : (upd Yd2 s3 (.tup [.int 0, .ref e3, .ref e4])) s3 = some (.tup [.int 0, .ref e3, .ref e4]) := upd_same
        generalize upd Yd2 s3 (.tup [.int 0, .ref e3, .ref e4]) = Yd3 at nt3 zYd3 gs3 ⊢
        have zYd4 : Ex Yd3 (upd Yd3 t3 (.tup [.ref p3, .ref s3])) := Ex.new nt3
        have gt3 : (upd Yd3 t3 (.tup [.ref p3, .ref s3])) t3 = some (.tup [.ref p3, .ref s3]) := upd_same
        generalize upd Yd3 t3 (.tup [.ref p3, .ref s3]) = Yd4 at zYd4 gt3 ⊢
        have x3d : Ex Hc3 Yd4 := ((zYd1.trans zYd2).trans zYd3).trans zYd4
        have x5d : Ex Yc5 Yd4 := xc3.trans x3d
        have P3 : PairAt K C Yd4 life (.ref t3) := ⟨t3, p3, s3, 0, [], [], rfl, gt3, M3.ex x3d, ⟨e3, e4, st_of (zYd4 _ _ gs3), ⟨[], ⟨oe3, ((zYd2.trans zYd3).trans zYd4) _ _ ge3, od3⟩, .nil⟩, ⟨[], ⟨oe4, (zYd3.trans zYd4) _ _ ge4, od4⟩, .nil⟩⟩, SOk.nil⟩
        have sa4 := (Kt.ex (x7c.trans x5d)).sv sa1
        refine ⟨.int life, rfl, .ref sv, rfl, rfl, rfl, fun p4 dx4 hp4 hdx4 dxp4 => ?_⟩
        have w4 : Ex Yd4 (upd (upd Yd4 dx4 (.own p4)) p4 (.ins C dx4 [])) := (Ex.new hdx4).trans (Ex.new (by rw [upd_ne dxp4.symm]; exact hp4))
        have v4 : (upd (upd Yd4 dx4 (.own p4)) p4 (.ins C dx4 [])) p4 = some (.ins C dx4 []) := upd_same
        generalize upd (upd Yd4 dx4 (.own p4)) p4 (.ins C dx4 []) = Ha4 at w4 v4 ⊢
        refine ⟨p4, dx4, sv, life, 7, at2, rws, sp, rfl, v4, dp_same w4 _ _ sa4.dp, ok.few, ok.spans, fun d4 g4 pp4 nn4 kvs4 Hc4 nd4 ng4 keep4 Tk4 kd4 => ⟨rfl, ?_⟩⟩
        have xc4 : Ex Yd4 Hc4 := fun a u h => keep4 a u (fun z => by
          rw [z, hp4] at h
          cases h) (w4 a u h)
        have M4 : MT C Hc4 p4 life at2 rws sp := ⟨d4, g4, pp4, nn4, kvs4, Tk4, kd4⟩
        refine ⟨.ref sv, rfl, sz_of (by simp), fun t4 nt4 => ⟨sz_of (by simp), fun l2 nl2 => ⟨l1, l2, [.ref t1, .ref t2], [.ref t3, .ref t4], rfl, rfl, ?_, upd_same, sz_of (by simp), fun l3 nl3 => g_name ?_⟩⟩⟩
        · exact Ex.new nl2 _ _ (Ex.new nt4 _ _ (xc4 _ _ (x5d _ _ gl1)))
        have zYe1 : Ex Hc4 (upd Hc4 t4 (.tup [.ref p4, .ref sv])) := Ex.new nt4
        have gt4 : (upd Hc4 t4 (.tup [.ref p4, .ref sv])) t4 = some (.tup [.ref p4, .ref sv]) := upd_same
        generalize upd Hc4 t4 (.tup [.ref p4, .ref sv]) = Ye1 at nl2 nl3 zYe1 gt4 ⊢
        have zYe2 : Ex Ye1 (upd Ye1 l2 (.lst [.ref t3, .ref t4])) := Ex.new nl2
        have gl2 : (upd Ye1 l2 (.lst [.ref t3, .ref t4])) l2 = some (.lst [.ref t3, .ref t4]) := upd_same
        generalize upd Ye1 l2 (.lst [.ref t3, .ref t4]) = Ye2 at nl3 zYe2 gl2 ⊢
        have zYe3 : Ex Ye2 (upd Ye2 l3 (.lst ([.ref t1, .ref t2] ++ [.ref t3, .ref t4]))) := Ex.new nl3
        have gl3 : (upd Ye2 l3 (.lst ([.ref t1, .ref t2] ++ [.ref t3, .ref t4]))) l3 = some (.lst ([.ref t1, .ref t2] ++ [.ref t3, .ref t4])) := upd_same
        generalize upd Ye2 l3 (.lst ([.ref t1, .ref t2] ++ [.ref t3, .ref t4])) = Ye3 at zYe3 gl3 ⊢
        dsimp only
        have x4e : Ex Hc4 Ye3 := (zYe1.trans zYe2).trans zYe3
        have xde : Ex Yd4 Ye3 := xc4.trans x4e
        have x7e : Ex H7 Ye3 := (x7c.trans x5d).trans xde
        have P4 : PairAt K C Ye3 life (.ref t4) := ⟨t4, p4, sv, at2, rws, sp, rfl, (zYe2.trans zYe3) _ _ gt4, M4.ex x4e, (Kt.ex x7e).sv sa1, ok⟩
        have all : ∀ (j : Nat) (x : V), ([.ref t1, .ref t2] ++ [.ref t3, .ref t4] : List V)[j]? = some x → PairAt K C Ye3 life x := fun j x hx => by
          have mx := List.mem_of_getElem? hx
          simp only [List.cons_append, List.nil_append, List.mem_cons, List.not_mem_nil, or_false] at mx
          rcases mx with rfl | rfl | rfl | rfl
          · exact P1.ex (x5d.trans xde)
          · exact P2.ex (x5d.trans xde)
          · exact P3.ex xde
          · exact P4
        have hlkE := x7e _ _ hlk7
        refine s_forL (K := K) (a := l3) (xs := [.ref t1, .ref t2] ++ [.ref t3, .ref t4]) (ev_var rfl) (sq_of gl3) (fun j σ' G => ∃ z8 z9 z10 z11 z12, σ' = [some (.ref a), some (.int (i : Int)), some (.ref b), some (.ref lk), some (.int life), some (.ref sv), some (.int pla), some (.ref l3), z8, z9, z10, z11, z12, y13] ∧ Ex Ye3 G) (fun G x => ⟨_, _, _, _, _, rfl, x⟩) (fun j σ' G _ ⟨_, _, _, _, _, _, x⟩ => sq_of (x _ _ gl3)) (fun j x σ' G hx p => ?_) (fun σ' G p => ?_)
        · obtain ⟨z8, z9, z10, z11, z12, rfl, xG⟩ := p
          obtain ⟨t, p, dv, at', rw', sp', rfl, ht, ⟨d, g, pp, nn, kvs, Tk, kd⟩, sa, okp⟩ := (all j x hx).ex xG
          refine ⟨t, _, rfl, st_of ht, rfl, _, _, rfl, _, _, rfl, rfl, ?_⟩
          dsimp only
          obtain ⟨ks1, kl1, km1⟩ := okp.keys
          refine s_seq ⟨.int life, rfl, .ref dv, rfl, dv, life, at', rw', sp', ks1, rfl, sa, km1, okp.spans, fun o rd kn pc ev ot rkv kkv Hd xd no nrd nkn npc not W di mi => g_name ?_⟩
          dsimp only
          have TO : TO2 K C Hd p d g pp nn o rd kn pc ev ot life at' kvs rkv kkv [] [] (learnS (fun _ => none) sp' rw') ks1 [] := ⟨Tk.ex xd, kd, W, begun_rows okp.inn ▸ di, mi.iff begun_sure, .nil, .nil⟩
          refine s_seq ⟨.ref p, rfl, .ref o, rfl, p, d, g, pp, nn, o, rd, kn, pc, ev, ot, life, at', kvs, rkv, kkv, [], [], _, ks1, [], rfl, TO, kl1, fun G1 x1' => ⟨true, rfl, iteF (s_next ?_)⟩⟩
          dsimp only
          have TO1 := TO.ex x1'
          have x01 : Ex G G1 := xd.trans x1'
          have sa1' := (Kt.ex x01).sv sa
          have hlk1 := (xG.trans x01) _ _ hlkE
          obtain ⟨xs, exs⟩ : ∃ xs : List V, xs = ks.map V.int ++ [.int (-1), .int 1000, .int (10 ^ (39 : Int).toNat), .int 500] := ⟨_, rfl⟩
          refine s_forNL (K := K) (xs := xs) (el_is (el_catV (ev_var rfl) hlk1 (el_lst (ea_cons (ev_un ev_c ru_neg) (ea_cons ev_c (ea_cons (ev_op ev_c ev_c (rv_pow ⟨by decide, by decide, by decide⟩)) (ea_cons ev_c ea_nil)))) (by simp)) (by rw [List.length_map]; simp; omega)) exs.symm) (fun pk j σ' G' => ∃ v11 v12, σ' = [some (.ref a), some (.int (i : Int)), some (.ref b), some (.ref lk), some (.int life), some (.ref sv), some (.int pla), some (.ref l3), some (.ref p), some (.ref dv), some (.ref o), v11, v12, y13] ∧ Ex G1 G' ∧ G' pk = some (.lst xs)) (fun pk G' _ x h => ⟨_, _, rfl, x, h⟩) (fun pk j σ' G' _ ⟨_, _, _, _, h⟩ => sq_of h) (fun pk j x σ' G' hx p => ?_) (fun pk σ' G' ⟨v11, v12, e, x, _⟩ => ⟨_, _, _, _, _, e, (xG.trans x01).trans x⟩)
          obtain ⟨v11, v12, rfl, xG', hpk⟩ := p
          obtain ⟨key, rfl, hkey⟩ : ∃ key : Int, x = .int key ∧ key.natAbs.log2 < 1920 := by
            have mx := List.mem_of_getElem? hx
            rw [exs] at mx
            rcases List.mem_append.mp mx with m | m
            · obtain ⟨k0, mk, rfl⟩ := List.mem_map.mp m
              have := hkb k0 mk
              exact ⟨k0, rfl, log_small (by omega)⟩
            · simp only [List.mem_cons, List.not_mem_nil, or_false] at m
              rcases m with rfl | rfl | rfl | rfl
              · exact ⟨_, rfl, by decide⟩
              · exact ⟨_, rfl, by decide⟩
              · exact ⟨_, rfl, log_small ⟨by decide, by decide⟩⟩
              · exact ⟨_, rfl, by decide⟩
          refine g_name ?_
          dsimp only
          obtain ⟨known, hknown⟩ : ∃ kb : Bool, kb = (valV kkv (.inl key)).isSome := ⟨_, rfl⟩
          have kn1 : known = (learnS (fun _ => none) sp' rw' key).isSome := by
            rw [hknown]
            exact Bool.eq_iff_iff.mpr (TO.mi.has key)
          have vk := kd.val key
          have le : ∀ o', learnS (fun _ => none) sp' rw' key = some o' → o' = fRows rw' key := fun o' e => by
            obtain ⟨h1, h2⟩ := learnS_is rw' sp' (fun _ => none) (fun _ => .inl rfl) key
            by_cases c : inSp sp' key
            · rw [h1 (.inl c)] at e
              exact (Option.some.inj e).symm
            · rw [h2 c rfl] at e
              cases e
          obtain ⟨pT, pS, hsv, tpT, tpS⟩ := (Kt.ex xG').sv sa1'
          have TOg := TO1.ex xG'
          refine s_seq ?_
          refine ev_ix1 (ev_var rfl) hsv G' (Ex.refl G') _ fun G2 x2' => ?_
          unfold tNil
          refine dict_di (ks := ks1) (tpT.same x2') km1 fun Dd kd' nDd di' => ⟨Dd, rfl, .inl ⟨kd', .inl upd_same⟩, .int key, rfl, _, DGet.k (k := .inl key) upd_same, sz_of (by simp), fun tt ntt => g_name ?_⟩
          have eo : (valV kd' (.inl key)).getD .non = optV (fRows rw' key) := by
            rw [di'.val]
            cases fRows rw' key <;> rfl
          rw [eo]
          have za : Ex G2 (upd G2 Dd (.dK kd')) := Ex.new nDd
          generalize upd G2 Dd (.dK kd') = G3 at ntt za ⊢
          have zb : Ex G3 (upd G3 tt (.tup [optV (fRows rw' key), .str "", .non])) := Ex.new ntt
          have gtt : (upd G3 tt (.tup [optV (fRows rw' key), .str "", .non])) tt = some (.tup [optV (fRows rw' key), .str "", .non]) := upd_same
          generalize upd G3 tt (.tup [optV (fRows rw' key), .str "", .non]) = G4 at zb gtt ⊢
          dsimp only
          have xG4 : Ex G' G4 := (x2'.trans za).trans zb
          have dO : ∀ {Gx : Hp} {t : Addr}, Gx t = some (.tup [optV (fRows rw' key), .str "", .non]) → Dp K Gx (.ref t) (.tuple [(match fRows rw' key with | some z => .int z | none => .none), .str "", .none]) := fun {Gx t} h => .tup (st_of h) (.cons (by
            cases fRows rw' key with
            | none => exact .non
            | some z => exact .int z) (.cons (.str _) (.cons .non .nil)))
          refine seq_mid (fun σ' Gx => ∃ t', σ' = [some (.ref a), some (.int (i : Int)), some (.ref b), some (.ref lk), some (.int life), some (.ref sv), some (.int pla), some (.ref l3), some (.ref p), some (.ref dv), some (.ref o), some (.int key), some (.ref t'), y13] ∧ Ex G4 Gx ∧ Dp K Gx (.ref t') (if known = true then .tuple [(match fRows rw' key with | some z => .int z | none => .none), .str "", .none] else .tuple [.none, .str "asked NotSure+", .int key])) (fun go => ?_) (fun σ' Gx p => ?_)
          · refine s_seq (s_if (b := !known) (fun Gy y Q'' k => ⟨.int key, rfl, .ref o, rfl, o, .ref kn, rfl, (TOg.ex (xG4.trans y)).ow.gKnown, kn, _, rfl, DGet.k (k := .inl key) (TOg.ex (xG4.trans y)).ow.hk, _, rfl, by rw [← hknown]; exact k Gy (Ex.refl Gy)⟩) (fun c G5 x5 => ⟨.int key, rfl, sz_of (by simp), fun t nt => g_name (go _ _ ⟨t, rfl, x5.trans (Ex.new nt), ?_⟩)⟩) (fun c G5 x5 => s_next (go _ _ ⟨tt, rfl, x5, ?_⟩)))
            · rw [if_neg (by cases known <;> simp_all)]
              exact dp_no upd_same
            · rw [if_pos (by cases known <;> simp_all)]
              exact dO (x5 _ _ gtt)
          · obtain ⟨t', rfl, x5, d5⟩ := p
            refine seq_mid (fun σ' Gx => ∃ t', σ' = [some (.ref a), some (.int (i : Int)), some (.ref b), some (.ref lk), some (.int life), some (.ref sv), some (.int pla), some (.ref l3), some (.ref p), some (.ref dv), some (.ref o), some (.int key), some (.ref t'), y13] ∧ Ex G4 Gx ∧ Dp K Gx (.ref t') (dueK rw' sp' key known)) (fun go => ?_) (fun σ' Gx p => ?_)
            · refine s_seq (s_if (b := !(decide ((0 : Int) ≤ key) && decide (key < 1000))) (et_not (et_test (ev_chain (p := fun i j => decide (i ≤ j)) (p' := fun i j => decide (i < j)) ev_c (ev_var rfl) ev_c))) (fun c G6 x6 => ⟨.int key, rfl, sz_of (by simp), fun t nt => g_name (go _ _ ⟨t, rfl, (x5.trans x6).trans (Ex.new nt), ?_⟩)⟩) (fun c G6 x6 => s_next (go _ _ ⟨t', rfl, x5.trans x6, ?_⟩)))
              · unfold dueK
                rw [if_neg fun y => by rw [decide_eq_true y.1, decide_eq_true y.2] at c; cases c]
                exact dp_no upd_same
              · unfold dueK
                simp only [Bool.not_eq_false', Bool.and_eq_true, decide_eq_true_eq] at c
                rw [if_pos c]
                exact dp_same x6 _ _ d5
            · obtain ⟨t2', rfl, x6, d6⟩ := p
              have xG6 := xG4.trans x6
              refine ne_sd (K := K) (n := 1) (dueK rw' sp' key known) (fun Q'' q'' => ?_) (fun Gy y Q'' q'' => ⟨.ref t2', rfl, q'' _ _ (Ex.refl _) (dp_same y _ _ d6)⟩) (sd_due _ _ _ _) (by decide) fun Gy y => iteF (s_next ⟨_, _, rfl, (xG'.trans xG6).trans y, (xG6.trans y) _ _ hpk⟩)
              refine ⟨.ref p, rfl, .int key, rfl, p, d, g, pp, nn, life, at', key, kvs, [], rfl, (TOg.ex xG6).tk, hkey, fun bad t Gy y ht => q'' _ _ y ?_, fun okk nk t Gy y ht => q'' _ _ y ?_, fun okk v hv t Gy y ht => q'' _ _ y ?_⟩
              · unfold dueK
                rw [if_neg bad]
                exact dp_no ht
              · have kf : known = false := by
                  rw [kn1]
                  rw [vk] at nk
                  rw [Option.map_eq_none_iff.mp nk]
                  rfl
                unfold dueK
                rw [if_pos okk, if_neg (by rw [kf]; exact Bool.false_ne_true)]
                exact dp_no ht
              · rw [vk] at hv
                obtain ⟨o', eo', rfl⟩ := Option.map_eq_some_iff.mp hv
                have kt : known = true := by
                  rw [kn1, eo']
                  rfl
                unfold dueK
                rw [if_pos okk, if_pos kt]
                rw [le o' eo'] at ht
                exact dO ht
        · obtain ⟨z8, z9, z10, z11, z12, rfl, xG⟩ := p
          exact ⟨_, _, _, _, _, _, _, _, _, _, _, _, _, rfl, ex_l ((x07.trans x7e).trans xG) hA'⟩
    · obtain ⟨y1, y2, y3, y4, y5, y6, y7, y8, y9, y10, y11, y12, y13, rfl, _⟩ := p
      exact q H'
end
end K19
namespace K19
open PySem L2 PyProof.Rows Tc Evl
set_option maxHeartbeats 4000000 in
theorem all_mk {l : PySem.W.OpenLaw} {w : World} {K : PySem.W.Frag} {h : Heap} {mg : Str → Option Value} {fa : Addr} (X : K.In h) (G : h.Ns mainGlobals mg) (hfa : mg "law" = some (.ref fa))
    {C D1 : Addr} {tp : Tok}
    {fM1 : Addr} {odM1 anM1 : Option Addr} {slM1 : Array (Option Value)} {ocM1 dcM1 pmM1 cdM1 ctM1 : Value}
    {fM2 : Addr} {odM2 anM2 : Option Addr} {slM2 : Array (Option Value)} {ocM2 kVM2 dcM2 pmM2 cdM2 ctM2 : Value}
    {fM3 : Addr} {odM3 anM3 : Option Addr} {slM3 : Array (Option Value)} {ocM3 kVM3 dcM3 pmM3 cdM3 ctM3 : Value}
    {fM4 : Addr} {odM4 anM4 : Option Addr} {slM4 : Array (Option Value)} {ocM4 kVM4 dcM4 pmM4 cdM4 ctM4 : Value}
    {fM5 : Addr} {odM5 anM5 : Option Addr} {slM5 : Array (Option Value)} {ocM5 kVM5 dcM5 pmM5 cdM5 ctM5 : Value}
    {fM6 : Addr} {odM6 anM6 : Option Addr} {slM6 : Array (Option Value)} {ocM6 kVM6 dcM6 pmM6 cdM6 ctM6 : Value}
    {fM7 : Addr} {odM7 anM7 : Option Addr} {slM7 : Array (Option Value)} {ocM7 kVM7 dcM7 pmM7 cdM7 ctM7 : Value}
    {fM8 : Addr} {odM8 anM8 : Option Addr} {slM8 : Array (Option Value)} {ocM8 kVM8 dcM8 pmM8 cdM8 ctM8 : Value}
    {fM9 : Addr} {odM9 anM9 : Option Addr} {slM9 : Array (Option Value)} {ocM9 kVM9 dcM9 pmM9 cdM9 ctM9 : Value}
    {fM10 : Addr} {odM10 anM10 : Option Addr} {slM10 : Array (Option Value)} {ocM10 kVM10 dcM10 pmM10 cdM10 ctM10 : Value}
    {fM11 : Addr} {odM11 anM11 : Option Addr} {slM11 : Array (Option Value)} {ocM11 kVM11 dcM11 pmM11 cdM11 ctM11 : Value}
    {f1 : Addr} {od1 an1 : Option Addr} {sl1 : Array (Option Value)} {oc1 kV1 dc1 pm1 cd1 ct1 : Value}
    {f2 : Addr} {od2 an2 : Option Addr} {sl2 : Array (Option Value)} {oc2 kV2 dc2 pm2 cd2 ct2 : Value}
    {f3 : Addr} {od3 an3 : Option Addr} {sl3 : Array (Option Value)} {oc3 kV3 dc3 pm3 cd3 ct3 : Value}
    {f4 : Addr} {od4 an4 : Option Addr} {sl4 : Array (Option Value)} {oc4 kV4 dc4 pm4 cd4 ct4 : Value}
    {f5 : Addr} {od5 an5 : Option Addr} {sl5 : Array (Option Value)} {oc5 kV5 dc5 pm5 cd5 ct5 : Value}
    {f6 : Addr} {od6 an6 : Option Addr} {sl6 : Array (Option Value)} {oc6 kV6 dc6 pm6 cd6 ct6 : Value}
    {f7 : Addr} {od7 an7 : Option Addr} {sl7 : Array (Option Value)} {oc7 kV7 dc7 pm7 cd7 ct7 : Value}
    {f8 : Addr} {od8 an8 : Option Addr} {sl8 : Array (Option Value)} {oc8 kV8 dc8 pm8 cd8 ct8 : Value}
    {f9 : Addr} {od9 an9 : Option Addr} {sl9 : Array (Option Value)} {oc9 kV9 dc9 pm9 cd9 ct9 : Value}
    {f10 : Addr} {od10 an10 : Option Addr} {sl10 : Array (Option Value)} {oc10 kV10 dc10 pm10 cd10 ct10 : Value}
    {f11 : Addr} {od11 an11 : Option Addr} {sl11 : Array (Option Value)} {oc11 kV11 dc11 pm11 cd11 ct11 : Value}
    {f12 : Addr} {od12 an12 : Option Addr} {sl12 : Array (Option Value)} {oc12 kV12 dc12 pm12 cd12 ct12 : Value}
    {f13 : Addr} {od13 an13 : Option Addr} {sl13 : Array (Option Value)} {oc13 kV13 dc13 pm13 cd13 ct13 : Value}
    {f14 : Addr} {od14 an14 : Option Addr} {sl14 : Array (Option Value)} {oc14 kV14 dc14 pm14 cd14 ct14 : Value}
    {f15 : Addr} {od15 an15 : Option Addr} {sl15 : Array (Option Value)} {oc15 kV15 dc15 pm15 cd15 ct15 : Value}
    {f16 : Addr} {od16 an16 : Option Addr} {sl16 : Array (Option Value)} {oc16 kV16 dc16 pm16 cd16 ct16 : Value}
    {f17 : Addr} {od17 an17 : Option Addr} {sl17 : Array (Option Value)} {oc17 kV17 dc17 pm17 cd17 ct17 : Value}
    {f18 : Addr} {od18 an18 : Option Addr} {sl18 : Array (Option Value)} {oc18 kV18 dc18 pm18 cd18 ct18 : Value}
    {f19 : Addr} {od19 an19 : Option Addr} {sl19 : Array (Option Value)} {oc19 kV19 dc19 pm19 cd19 ct19 : Value}
    {f20 : Addr} {od20 an20 : Option Addr} {sl20 : Array (Option Value)} {oc20 kV20 dc20 pm20 cd20 ct20 : Value}
    {f21 : Addr} {od21 an21 : Option Addr} {sl21 : Array (Option Value)} {oc21 kV21 dc21 pm21 cd21 ct21 : Value}
    {t1 : Tok}
    {CK NK IK WK AK : Addr} {nmK qK : Str} {bsK bmK : List Value} {snK subK abK colK ddK u0K u1K u2K u3K u5K} {ocK kvK dcK pmK ctK w0K : Value} {odK anK w1K : Option Addr} {slK w2K : Array (Option Value)}
    {CS NS IS WS AS : Addr} {nmS qS : Str} {bsS bmS : List Value} {snS subS abS colS ddS u0S u1S u2S u3S u5S} {ocS kvS dcS pmS ctS w0S : Value} {odS anS w1S : Option Addr} {slS w2S : Array (Option Value)}
    {CT : Addr}
    (aC : PySem.W.nsIn K mainGlobals "Taker" = some (some (.ref C)))
    (aM1 : PySem.W.findIn K (.ref C) "__init__" = some (some (.ref fM1))) (iM1 : PySem.W.isFn K (.ref fM1) = true) (lM1 : K.lookup fM1 = some ⟨ocM1, odM1, .func (PySem.W.fnOf "__init__" "Taker.__init__" (defArgs mInit) (defBody mInit) (defScope mInit) .none (.ref D1) dcM1 pmM1 anM1 cdM1 ctM1), slM1⟩) (cM1 : PySem.W.codeIn K cdM1 "Taker.__init__" = true) (kM1 : PySem.W.keepIn K (.ref fM1) = true)
    (aM2 : PySem.W.findIn K (.ref C) "begin_with" = some (some (.ref fM2))) (iM2 : PySem.W.isFn K (.ref fM2) = true) (lM2 : K.lookup fM2 = some ⟨ocM2, odM2, .func (PySem.W.fnOf "begin_with" "Taker.begin_with" (defArgs mBegin) (defBody mBegin) (defScope mBegin) .none kVM2 dcM2 pmM2 anM2 cdM2 ctM2), slM2⟩) (cM2 : PySem.W.codeIn K cdM2 "Taker.begin_with" = true) (kM2 : PySem.W.keepIn K (.ref fM2) = true)
    (aM3 : PySem.W.findIn K (.ref C) "life" = some (some (.ref fM3))) (iM3 : PySem.W.isFn K (.ref fM3) = true) (lM3 : K.lookup fM3 = some ⟨ocM3, odM3, .func (PySem.W.fnOf "life" "Taker.life" (defArgs mLife) (defBody mLife) (defScope mLife) .none kVM3 dcM3 pmM3 anM3 cdM3 ctM3), slM3⟩) (cM3 : PySem.W.codeIn K cdM3 "Taker.life" = true) (kM3 : PySem.W.keepIn K (.ref fM3) = true)
    (aM4 : PySem.W.findIn K (.ref C) "place" = some (some (.ref fM4))) (iM4 : PySem.W.isFn K (.ref fM4) = true) (lM4 : K.lookup fM4 = some ⟨ocM4, odM4, .func (PySem.W.fnOf "place" "Taker.place" (defArgs mPlace) (defBody mPlace) (defScope mPlace) .none kVM4 dcM4 pmM4 anM4 cdM4 ctM4), slM4⟩) (cM4 : PySem.W.codeIn K cdM4 "Taker.place" = true) (kM4 : PySem.W.keepIn K (.ref fM4) = true)
    (aM5 : PySem.W.findIn K (.ref C) "rows" = some (some (.ref fM5))) (iM5 : PySem.W.isFn K (.ref fM5) = true) (lM5 : K.lookup fM5 = some ⟨ocM5, odM5, .func (PySem.W.fnOf "rows" "Taker.rows" (defArgs mRows) (defBody mRows) (defScope mRows) .none kVM5 dcM5 pmM5 anM5 cdM5 ctM5), slM5⟩) (cM5 : PySem.W.codeIn K cdM5 "Taker.rows" = true) (kM5 : PySem.W.keepIn K (.ref fM5) = true)
    (aM6 : PySem.W.findIn K (.ref C) "sure" = some (some (.ref fM6))) (iM6 : PySem.W.isFn K (.ref fM6) = true) (lM6 : K.lookup fM6 = some ⟨ocM6, odM6, .func (PySem.W.fnOf "sure" "Taker.sure" (defArgs mSure) (defBody mSure) (defScope mSure) .none kVM6 dcM6 pmM6 anM6 cdM6 ctM6), slM6⟩) (cM6 : PySem.W.codeIn K cdM6 "Taker.sure" = true) (kM6 : PySem.W.keepIn K (.ref fM6) = true)
    (aM7 : PySem.W.findIn K (.ref C) "worth" = some (some (.ref fM7))) (iM7 : PySem.W.isFn K (.ref fM7) = true) (lM7 : K.lookup fM7 = some ⟨ocM7, odM7, .func (PySem.W.fnOf "worth" "Taker.worth" (defArgs mWorth) (defBody mWorth) (defScope mWorth) .none kVM7 dcM7 pmM7 anM7 cdM7 ctM7), slM7⟩) (cM7 : PySem.W.codeIn K cdM7 "Taker.worth" = true) (kM7 : PySem.W.keepIn K (.ref fM7) = true)
    (aM8 : PySem.W.findIn K (.ref C) "events" = some (some (.ref fM8))) (iM8 : PySem.W.isFn K (.ref fM8) = true) (lM8 : K.lookup fM8 = some ⟨ocM8, odM8, .func (PySem.W.fnOf "events" "Taker.events" (defArgs mEvents) (defBody mEvents) (defScope mEvents) .none kVM8 dcM8 pmM8 anM8 cdM8 ctM8), slM8⟩) (cM8 : PySem.W.codeIn K cdM8 "Taker.events" = true) (kM8 : PySem.W.keepIn K (.ref fM8) = true)
    (aM9 : PySem.W.findIn K (.ref C) "asked" = some (some (.ref fM9))) (iM9 : PySem.W.isFn K (.ref fM9) = true) (lM9 : K.lookup fM9 = some ⟨ocM9, odM9, .func (PySem.W.fnOf "asked" "Taker.asked" (defArgs mAsked) (defBody mAsked) (defScope mAsked) .none kVM9 dcM9 pmM9 anM9 cdM9 ctM9), slM9⟩) (cM9 : PySem.W.codeIn K cdM9 "Taker.asked" = true) (kM9 : PySem.W.keepIn K (.ref fM9) = true)
    (aM10 : PySem.W.findIn K (.ref C) "saved" = some (some (.ref fM10))) (iM10 : PySem.W.isFn K (.ref fM10) = true) (lM10 : K.lookup fM10 = some ⟨ocM10, odM10, .func (PySem.W.fnOf "saved" "Taker.saved" (defArgs mSaved) (defBody mSaved) (defScope mSaved) .none kVM10 dcM10 pmM10 anM10 cdM10 ctM10), slM10⟩) (cM10 : PySem.W.codeIn K cdM10 "Taker.saved" = true) (kM10 : PySem.W.keepIn K (.ref fM10) = true)
    (aM11 : PySem.W.findIn K (.ref C) "__len__" = some (some (.ref fM11))) (iM11 : PySem.W.isFn K (.ref fM11) = true) (lM11 : K.lookup fM11 = some ⟨ocM11, odM11, .func (PySem.W.fnOf "__len__" "Taker.__len__" (defArgs mLen) (defBody mLen) (defScope mLen) .none kVM11 dcM11 pmM11 anM11 cdM11 ctM11), slM11⟩) (cM11 : PySem.W.codeIn K cdM11 "Taker.__len__" = true) (kM11 : PySem.W.keepIn K (.ref fM11) = true)
    (nP : PySem.W.nsIn K D1 "place" = some (some (.int 0 tp))) (nS : PySem.W.nsIn K D1 "saved" = some (some .none))
    (hd : PySem.W.hasDictIn K C = true) (pg : PySem.W.plainGet K C Str.empty = true) (po : PySem.W.plainOver K C = true) (sa : PySem.W.findIn K (.ref C) "__setattr__" = some (some (.builtin "object.__setattr__"))) (mk : PySem.W.makesIn K C = true) (kc : PySem.W.keepIn K (.ref C) = true)
    (n1 : PySem.W.findIn K (.ref C) "own_life" = some none)
    (n2 : PySem.W.findIn K (.ref C) "at" = some none)
    (n3 : PySem.W.findIn K (.ref C) "known" = some none)
    (n4 : PySem.W.findIn K (.ref C) "given" = some none)
    (n5 : PySem.W.findIn K (.ref C) "pieces" = some none)
    (n6 : PySem.W.findIn K (.ref C) "numbers" = some none)
    (a1 : PySem.W.nsIn K mainGlobals "is_number" = some (some (.ref f1))) (l1 : K.lookup f1 = some ⟨oc1, od1, .func (PySem.W.fnOf "is_number" "is_number" (defArgs sNum) (defBody sNum) (defScope sNum) .none kV1 dc1 pm1 an1 cd1 ct1), sl1⟩) (c1 : PySem.W.codeIn K cd1 "is_number" = true) (k1 : PySem.W.keepIn K (.ref f1) = true)
    (a2 : PySem.W.nsIn K mainGlobals "is_key" = some (some (.ref f2))) (l2 : K.lookup f2 = some ⟨oc2, od2, .func (PySem.W.fnOf "is_key" "is_key" (defArgs sKey) (defBody sKey) (defScope sKey) .none kV2 dc2 pm2 an2 cd2 ct2), sl2⟩) (c2 : PySem.W.codeIn K cd2 "is_key" = true) (k2 : PySem.W.keepIn K (.ref f2) = true)
    (a3 : PySem.W.nsIn K mainGlobals "rising" = some (some (.ref f3))) (l3 : K.lookup f3 = some ⟨oc3, od3, .func (PySem.W.fnOf "rising" "rising" (defArgs sRi) (defBody sRi) (defScope sRi) .none kV3 dc3 pm3 an3 cd3 ct3), sl3⟩) (c3 : PySem.W.codeIn K cd3 "rising" = true) (k3 : PySem.W.keepIn K (.ref f3) = true)
    (a4 : PySem.W.nsIn K mainGlobals "stretches_of" = some (some (.ref f4))) (l4 : K.lookup f4 = some ⟨oc4, od4, .func (PySem.W.fnOf "stretches_of" "stretches_of" (defArgs sSo) (defBody sSo) (defScope sSo) .none kV4 dc4 pm4 an4 cd4 ct4), sl4⟩) (c4 : PySem.W.codeIn K cd4 "stretches_of" = true) (k4 : PySem.W.keepIn K (.ref f4) = true)
    (a5 : PySem.W.nsIn K mainGlobals "learn_piece" = some (some (.ref f5))) (l5 : K.lookup f5 = some ⟨oc5, od5, .func (PySem.W.fnOf "learn_piece" "learn_piece" (defArgs sLp) (defBody sLp) (defScope sLp) .none kV5 dc5 pm5 an5 cd5 ct5), sl5⟩) (c5 : PySem.W.codeIn K cd5 "learn_piece" = true) (k5 : PySem.W.keepIn K (.ref f5) = true)
    (a6 : PySem.W.nsIn K mainGlobals "known_rows" = some (some (.ref f6))) (l6 : K.lookup f6 = some ⟨oc6, od6, .func (PySem.W.fnOf "known_rows" "known_rows" (defArgs sKr) (defBody sKr) (defScope sKr) .none kV6 dc6 pm6 an6 cd6 ct6), sl6⟩) (c6 : PySem.W.codeIn K cd6 "known_rows" = true) (k6 : PySem.W.keepIn K (.ref f6) = true)
    (a7 : PySem.W.nsIn K mainGlobals "_law_bag" = some (some (.ref f7))) (l7 : K.lookup f7 = some ⟨oc7, od7, .func (PySem.W.fnOf "_law_bag" "_law_bag" (defArgs sBag) (defBody sBag) (defScope sBag) .none kV7 dc7 pm7 an7 cd7 ct7), sl7⟩) (c7 : PySem.W.codeIn K cd7 "_law_bag" = true) (k7 : PySem.W.keepIn K (.ref f7) = true)
    (a8 : PySem.W.nsIn K mainGlobals "_law_take" = some (some (.ref f8))) (l8 : K.lookup f8 = some ⟨oc8, od8, .func (PySem.W.fnOf "_law_take" "_law_take" (defArgs sTake) (defBody sTake) (defScope sTake) .none kV8 dc8 pm8 an8 cd8 ct8), sl8⟩) (c8 : PySem.W.codeIn K cd8 "_law_take" = true) (k8 : PySem.W.keepIn K (.ref f8) = true)
    (a9 : PySem.W.nsIn K mainGlobals "_law_of" = some (some (.ref f9))) (l9 : K.lookup f9 = some ⟨oc9, od9, .func (PySem.W.fnOf "_law_of" "_law_of" (defArgs sOf) (defBody sOf) (defScope sOf) .none kV9 dc9 pm9 an9 cd9 ct9), sl9⟩) (c9 : PySem.W.codeIn K cd9 "_law_of" = true) (k9 : PySem.W.keepIn K (.ref f9) = true)
    (a10 : PySem.W.nsIn K mainGlobals "_law_keys" = some (some (.ref f10))) (l10 : K.lookup f10 = some ⟨oc10, od10, .func (PySem.W.fnOf "_law_keys" "_law_keys" (defArgs sKeys) (defBody sKeys) (defScope sKeys) .none kV10 dc10 pm10 an10 cd10 ct10), sl10⟩) (c10 : PySem.W.codeIn K cd10 "_law_keys" = true) (k10 : PySem.W.keepIn K (.ref f10) = true)
    (a11 : PySem.W.nsIn K mainGlobals "_law_table" = some (some (.ref f11))) (l11 : K.lookup f11 = some ⟨oc11, od11, .func (PySem.W.fnOf "_law_table" "_law_table" (defArgs sTab) (defBody sTab) (defScope sTab) .none kV11 dc11 pm11 an11 cd11 ct11), sl11⟩) (c11 : PySem.W.codeIn K cd11 "_law_table" = true) (k11 : PySem.W.keepIn K (.ref f11) = true)
    (a12 : PySem.W.nsIn K mainGlobals "_law_pairs" = some (some (.ref f12))) (l12 : K.lookup f12 = some ⟨oc12, od12, .func (PySem.W.fnOf "_law_pairs" "_law_pairs" (defArgs sPairs) (defBody sPairs) (defScope sPairs) .none kV12 dc12 pm12 an12 cd12 ct12), sl12⟩) (c12 : PySem.W.codeIn K cd12 "_law_pairs" = true) (k12 : PySem.W.keepIn K (.ref f12) = true)
    (a13 : PySem.W.nsIn K mainGlobals "_law_stretch" = some (some (.ref f13))) (l13 : K.lookup f13 = some ⟨oc13, od13, .func (PySem.W.fnOf "_law_stretch" "_law_stretch" (defArgs sStr) (defBody sStr) (defScope sStr) .none kV13 dc13 pm13 an13 cd13 ct13), sl13⟩) (c13 : PySem.W.codeIn K cd13 "_law_stretch" = true) (k13 : PySem.W.keepIn K (.ref f13) = true)
    (a14 : PySem.W.nsIn K mainGlobals "_law_spans" = some (some (.ref f14))) (l14 : K.lookup f14 = some ⟨oc14, od14, .func (PySem.W.fnOf "_law_spans" "_law_spans" (defArgs sSpans) (defBody sSpans) (defScope sSpans) .none kV14 dc14 pm14 an14 cd14 ct14), sl14⟩) (c14 : PySem.W.codeIn K cd14 "_law_spans" = true) (k14 : PySem.W.keepIn K (.ref f14) = true)
    (a15 : PySem.W.nsIn K mainGlobals "_law_taker_new" = some (some (.ref f15))) (l15 : K.lookup f15 = some ⟨oc15, od15, .func (PySem.W.fnOf "_law_taker_new" "_law_taker_new" (defArgs sTn) (defBody sTn) (defScope sTn) .none kV15 dc15 pm15 an15 cd15 ct15), sl15⟩) (c15 : PySem.W.codeIn K cd15 "_law_taker_new" = true) (k15 : PySem.W.keepIn K (.ref f15) = true)
    (a16 : PySem.W.nsIn K mainGlobals "_law_taker_so" = some (some (.ref f16))) (l16 : K.lookup f16 = some ⟨oc16, od16, .func (PySem.W.fnOf "_law_taker_so" "_law_taker_so" (defArgs sTs) (defBody sTs) (defScope sTs) .none kV16 dc16 pm16 an16 cd16 ct16), sl16⟩) (c16 : PySem.W.codeIn K cd16 "_law_taker_so" = true) (k16 : PySem.W.keepIn K (.ref f16) = true)
    (a17 : PySem.W.nsIn K mainGlobals "_law_saved" = some (some (.ref f17))) (l17 : K.lookup f17 = some ⟨oc17, od17, .func (PySem.W.fnOf "_law_saved" "_law_saved" (defArgs sSv) (defBody sSv) (defScope sSv) .none kV17 dc17 pm17 an17 cd17 ct17), sl17⟩) (c17 : PySem.W.codeIn K cd17 "_law_saved" = true) (k17 : PySem.W.keepIn K (.ref f17) = true)
    (a18 : PySem.W.nsIn K mainGlobals "_law_kinds" = some (some (.ref f18))) (l18 : K.lookup f18 = some ⟨oc18, od18, .func (PySem.W.fnOf "_law_kinds" "_law_kinds" (defArgs sKinds) (defBody sKinds) (defScope sKinds) .none kV18 dc18 pm18 an18 cd18 ct18), sl18⟩) (c18 : PySem.W.codeIn K cd18 "_law_kinds" = true) (k18 : PySem.W.keepIn K (.ref f18) = true)
    (a19 : PySem.W.nsIn K mainGlobals "_law_field" = some (some (.ref f19))) (l19 : K.lookup f19 = some ⟨oc19, od19, .func (PySem.W.fnOf "_law_field" "_law_field" (defArgs sField) (defBody sField) (defScope sField) .none kV19 dc19 pm19 an19 cd19 ct19), sl19⟩) (c19 : PySem.W.codeIn K cd19 "_law_field" = true) (k19 : PySem.W.keepIn K (.ref f19) = true)
    (a20 : PySem.W.nsIn K mainGlobals "_law_worth_of" = some (some (.ref f20))) (l20 : K.lookup f20 = some ⟨oc20, od20, .func (PySem.W.fnOf "_law_worth_of" "_law_worth_of" (defArgs sWof) (defBody sWof) (defScope sWof) .none kV20 dc20 pm20 an20 cd20 ct20), sl20⟩) (c20 : PySem.W.codeIn K cd20 "_law_worth_of" = true) (k20 : PySem.W.keepIn K (.ref f20) = true)
    (a21 : PySem.W.nsIn K mainGlobals "law" = some (some (.ref f21))) (l21 : K.lookup f21 = some ⟨oc21, od21, .func (PySem.W.fnOf "law" "law" (defArgs sLaw) (defBody sLaw) (defScope sLaw) .none kV21 dc21 pm21 an21 cd21 ct21), sl21⟩) (c21 : PySem.W.codeIn K cd21 "law" = true) (k21 : PySem.W.keepIn K (.ref f21) = true)
    (g1 : PySem.W.nsIn K mainGlobals "KEYS" = some (some (.int 1000 t1)))
    (z1 : PySem.W.nsIn K mainGlobals "len" = some none)
    (z2 : PySem.W.nsIn K mainGlobals "range" = some none)
    (z3 : PySem.W.nsIn K mainGlobals "set" = some none)
    (z4 : PySem.W.nsIn K mainGlobals "sorted" = some none)
    (z5 : PySem.W.nsIn K mainGlobals "tuple" = some none)
    (z6 : PySem.W.nsIn K mainGlobals "abs" = some none)
    (z7 : PySem.W.nsIn K mainGlobals "min" = some none)
    (z8 : PySem.W.nsIn K mainGlobals "dict" = some none)
    (z9 : PySem.W.nsIn K mainGlobals "list" = some none)
    (z10 : PySem.W.nsIn K mainGlobals "enumerate" = some none)
    (z11 : PySem.W.nsIn K mainGlobals "int" = some none)
    (z12 : PySem.W.nsIn K mainGlobals "isinstance" = some none)
    (z13 : PySem.W.nsIn K mainGlobals "ValueError" = some none)
    (z14 : PySem.W.nsIn K mainGlobals "bool" = some none)
    (aCK : PySem.W.nsIn K mainGlobals "NoKey" = some (some (.ref CK))) (xLK : K.lookup CK = some (excClassObj nmK qK CK NK bsK bmK true snK subK abK colK ddK u0K u1K u2K u3K u5K "ValueError.__new__")) (xRK : PySem.HandSPX.refsVE bmK = true) (xOK : oexB K CK = true) (xBK : excB K CK flNk = true)
    (xIK : PySem.W.findIn K (.ref CK) "__init__" = some (some (.ref IK))) (xTK : PySem.W.typeIn K (.ref IK) = some (.type "function")) (xFK : K.lookup IK = some ⟨ocK, odK, .func (PySem.W.fnX "__init__" "NoKey.__init__" (defArgs mNk) (defBody mNk) (defScope mNk) [("__class__", WK)] .none kvK dcK pmK anK (.ref AK) ctK), slK⟩) (xCK : PySem.W.codeIn K (.ref AK) "NoKey.__init__" = true)
    (xWK : K.lookup WK = some ⟨w0K, w1K, .cell (some (.ref CK)), w2K⟩) (xNK : PySem.W.findIn K (.ref CK) "key" = some none) (xSK : supB K l.prog.main.file CK AK = true)
    (aCS : PySem.W.nsIn K mainGlobals "NotSure" = some (some (.ref CS))) (xLS : K.lookup CS = some (excClassObj nmS qS CS NS bsS bmS true snS subS abS colS ddS u0S u1S u2S u3S u5S "ValueError.__new__")) (xRS : PySem.HandSPX.refsVE bmS = true) (xOS : oexB K CS = true) (xBS : excB K CS flNs = true)
    (xIS : PySem.W.findIn K (.ref CS) "__init__" = some (some (.ref IS))) (xTS : PySem.W.typeIn K (.ref IS) = some (.type "function")) (xFS : K.lookup IS = some ⟨ocS, odS, .func (PySem.W.fnX "__init__" "NotSure.__init__" (defArgs mNs) (defBody mNs) (defScope mNs) [("__class__", WS)] .none kvS dcS pmS anS (.ref AS) ctS), slS⟩) (xCS : PySem.W.codeIn K (.ref AS) "NotSure.__init__" = true)
    (xWS : K.lookup WS = some ⟨w0S, w1S, .cell (some (.ref CS)), w2S⟩) (xNS : PySem.W.findIn K (.ref CS) "key" = some none) (xSS : supB K l.prog.main.file CS AS = true)
    (aT : PySem.W.nsIn K mainGlobals "TideError" = some (some (.ref CT))) (eK : PySem.W.exmOne K (.ref CK) (.ref CT) = some true) (eS : PySem.W.exmOne K (.ref CS) (.ref CT) = some true) (xP : (l.prog.main.scope.names.lookup ("super" : Str)).isSome = false) :
    ∃ fd : FuncData, (∀ (s : Shared) (v : Value), BindsTo s fd ⟨[v], []⟩ [("script", v)]) ∧ ∀ base : Heap, K.In base → base.Ns mainGlobals mg → FnOk l.prog w K mg base CX0 7 fa fd ["script"] (spLaw K) := by
  have e := hfa.symm.trans (PySem.W.mg_of X G a21)
  cases e
  have F1 := fun_mk (st := sNum) l1 c1 k1
  have b1 := F1.binds (ps := ["thing"]) fun _ _ _ _ _ _ us hl => match us, hl with | [_], _ => rfl
  have F2 := fun_mk (st := sKey) l2 c2 k2
  have b2 := F2.binds (ps := ["thing"]) fun _ _ _ _ _ _ us hl => match us, hl with | [_], _ => rfl
  have F3 := fun_mk (st := sRi) l3 c3 k3
  have b3 := F3.binds (ps := ["rows"]) fun _ _ _ _ _ _ us hl => match us, hl with | [_], _ => rfl
  have F4 := fun_mk (st := sSo) l4 c4 k4
  have b4 := F4.binds (ps := ["keys"]) fun _ _ _ _ _ _ us hl => match us, hl with | [_], _ => rfl
  have F5 := fun_mk (st := sLp) l5 c5 k5
  have b5 := F5.binds (ps := ["known", "stretch", "rows"]) fun _ _ _ _ _ _ us hl => match us, hl with | [_, _, _], _ => rfl
  have F6 := fun_mk (st := sKr) l6 c6 k6
  have b6 := F6.binds (ps := ["known"]) fun _ _ _ _ _ _ us hl => match us, hl with | [_], _ => rfl
  have F7 := fun_mk (st := sBag) l7 c7 k7
  have b7 := F7.binds (ps := ["script", "k"]) fun _ _ _ _ _ _ us hl => match us, hl with | [_, _], _ => rfl
  have F8 := fun_mk (st := sTake) l8 c8 k8
  have b8 := F8.binds (ps := ["bag", "many"]) fun _ _ _ _ _ _ us hl => match us, hl with | [_, _], _ => rfl
  have F9 := fun_mk (st := sOf) l9 c9 k9
  have b9 := F9.binds (ps := ["bag", "some"]) fun _ _ _ _ _ _ us hl => match us, hl with | [_, _], _ => rfl
  have F10 := fun_mk (st := sKeys) l10 c10 k10
  have b10 := F10.binds (ps := ["bag"]) fun _ _ _ _ _ _ us hl => match us, hl with | [_], _ => rfl
  have F11 := fun_mk (st := sTab) l11 c11 k11
  have b11 := F11.binds (ps := ["bag", "keys"]) fun _ _ _ _ _ _ us hl => match us, hl with | [_, _], _ => rfl
  have F12 := fun_mk (st := sPairs) l12 c12 k12
  have b12 := F12.binds (ps := ["rows"]) fun _ _ _ _ _ _ us hl => match us, hl with | [_], _ => rfl
  have F13 := fun_mk (st := sStr) l13 c13 k13
  have b13 := F13.binds (ps := ["bag", "keys"]) fun _ _ _ _ _ _ us hl => match us, hl with | [_, _], _ => rfl
  have F14 := fun_mk (st := sSpans) l14 c14 k14
  have b14 := F14.binds (ps := ["keys"]) fun _ _ _ _ _ _ us hl => match us, hl with | [_], _ => rfl
  have F15 := fun_mk (st := sTn) l15 c15 k15
  have b15 := F15.binds (ps := ["life", "sav1"]) fun _ _ _ _ _ _ us hl => match us, hl with | [_, _], _ => rfl
  have F16 := fun_mk (st := sTs) l16 c16 k16
  have b16 := F16.binds (ps := ["taker", "own"]) fun _ _ _ _ _ _ us hl => match us, hl with | [_, _], _ => rfl
  have F17 := fun_mk (st := sSv) l17 c17 k17
  have b17 := F17.binds (ps := ["bag", "keys"]) fun _ _ _ _ _ _ us hl => match us, hl with | [_, _], _ => rfl
  have F18 := fun_mk (st := sKinds) l18 c18 k18
  have b18 := F18.binds (ps := ["e"]) fun _ _ _ _ _ _ us hl => match us, hl with | [_], _ => rfl
  have F19 := fun_mk (st := sField) l19 c19 k19
  have b19 := F19.binds (ps := ["e"]) fun _ _ _ _ _ _ us hl => match us, hl with | [_], _ => rfl
  have F20 := fun_mk (st := sWof) l20 c20 k20
  have b20 := F20.binds (ps := ["taker", "key"]) fun _ _ _ _ _ _ us hl => match us, hl with | [_, _], _ => rfl
  have F21 := fun_mk (st := sLaw) l21 c21 k21
  have FM1 := fun_mk (st := mInit) lM1 cM1 kM1
  have qInit : Meth K C "__init__" fM1 := ⟨aM1, iM1, kM1⟩
  have FM2 := fun_mk (st := mBegin) lM2 cM2 kM2
  have bM2 := FM2.binds (ps := ["self", "saved"]) fun _ _ _ _ _ _ us hl => match us, hl with | [_, _], _ => rfl
  have qBegin : Meth K C "begin_with" fM2 := ⟨aM2, iM2, kM2⟩
  have FM3 := fun_mk (st := mLife) lM3 cM3 kM3
  have bM3 := FM3.binds (ps := ["self"]) fun _ _ _ _ _ _ us hl => match us, hl with | [_], _ => rfl
  have qLife : Meth K C "life" fM3 := ⟨aM3, iM3, kM3⟩
  have FM4 := fun_mk (st := mPlace) lM4 cM4 kM4
  have bM4 := FM4.binds (ps := ["self"]) fun _ _ _ _ _ _ us hl => match us, hl with | [_], _ => rfl
  have qPlace : Meth K C "place" fM4 := ⟨aM4, iM4, kM4⟩
  have FM5 := fun_mk (st := mRows) lM5 cM5 kM5
  have bM5 := FM5.binds (ps := ["self"]) fun _ _ _ _ _ _ us hl => match us, hl with | [_], _ => rfl
  have qRows : Meth K C "rows" fM5 := ⟨aM5, iM5, kM5⟩
  have FM6 := fun_mk (st := mSure) lM6 cM6 kM6
  have bM6 := FM6.binds (ps := ["self"]) fun _ _ _ _ _ _ us hl => match us, hl with | [_], _ => rfl
  have qSure : Meth K C "sure" fM6 := ⟨aM6, iM6, kM6⟩
  have FM7 := fun_mk (st := mWorth) lM7 cM7 kM7
  have bM7 := FM7.binds (ps := ["self", "key"]) fun _ _ _ _ _ _ us hl => match us, hl with | [_, _], _ => rfl
  have qWorth : Meth K C "worth" fM7 := ⟨aM7, iM7, kM7⟩
  have FM8 := fun_mk (st := mEvents) lM8 cM8 kM8
  have bM8 := FM8.binds (ps := ["self"]) fun _ _ _ _ _ _ us hl => match us, hl with | [_], _ => rfl
  have qEvents : Meth K C "events" fM8 := ⟨aM8, iM8, kM8⟩
  have FM9 := fun_mk (st := mAsked) lM9 cM9 kM9
  have bM9 := FM9.binds (ps := ["self"]) fun _ _ _ _ _ _ us hl => match us, hl with | [_], _ => rfl
  have qAsked : Meth K C "asked" fM9 := ⟨aM9, iM9, kM9⟩
  have FM10 := fun_mk (st := mSaved) lM10 cM10 kM10
  have bM10 := FM10.binds (ps := ["self"]) fun _ _ _ _ _ _ us hl => match us, hl with | [_], _ => rfl
  have qSaved : Meth K C "saved" fM10 := ⟨aM10, iM10, kM10⟩
  have FM11 := fun_mk (st := mLen) lM11 cM11 kM11
  have bM11 := FM11.binds (ps := ["self"]) fun _ _ _ _ _ _ us hl => match us, hl with | [_], _ => rfl
  have qLen : Meth K C "__len__" fM11 := ⟨aM11, iM11, kM11⟩
  have FDp : FunD K "__init__" "Taker.__init__" (defArgs mInit) (defBody mInit) (defScope mInit) [] [("place", .int 0)] fM1 (PySem.W.fnOf "__init__" "Taker.__init__" (defArgs mInit) (defBody mInit) (defScope mInit) .none (.ref D1) dcM1 pmM1 anM1 cdM1 ctM1) := ⟨⟨_, _, _, _, _, _, _, _, _, _, rfl, lM1, cM1, .inl ⟨rfl, rfl⟩, .inr ⟨D1, rfl, fun q hq => by
    rcases List.mem_singleton.mp hq with rfl
    exact ⟨_, nP, ⟨_, rfl⟩⟩⟩⟩, kM1⟩
  have FDs : FunD K "__init__" "Taker.__init__" (defArgs mInit) (defBody mInit) (defScope mInit) [] [("saved", .non)] fM1 (PySem.W.fnOf "__init__" "Taker.__init__" (defArgs mInit) (defBody mInit) (defScope mInit) .none (.ref D1) dcM1 pmM1 anM1 cdM1 ctM1) := ⟨⟨_, _, _, _, _, _, _, _, _, _, rfl, lM1, cM1, .inl ⟨rfl, rfl⟩, .inr ⟨D1, rfl, fun q hq => by
    rcases List.mem_singleton.mp hq with rfl
    exact ⟨_, nS, rfl⟩⟩⟩, kM1⟩
  have FDb : FunD K "__init__" "Taker.__init__" (defArgs mInit) (defBody mInit) (defScope mInit) [] [("place", .int 0), ("saved", .non)] fM1 (PySem.W.fnOf "__init__" "Taker.__init__" (defArgs mInit) (defBody mInit) (defScope mInit) .none (.ref D1) dcM1 pmM1 anM1 cdM1 ctM1) := ⟨⟨_, _, _, _, _, _, _, _, _, _, rfl, lM1, cM1, .inl ⟨rfl, rfl⟩, .inr ⟨D1, rfl, fun q hq => by
    rcases List.mem_cons.mp hq with rfl | hq
    · exact ⟨_, nP, ⟨_, rfl⟩⟩
    · rcases List.mem_singleton.mp hq with rfl
      exact ⟨_, nS, rfl⟩⟩⟩, kM1⟩
  obtain ⟨gI, bI⟩ := kb_init FDp
  obtain ⟨gP, bP⟩ := kb_place FDs
  obtain ⟨dsN, vN, bN⟩ := kb_new FDb
  have bB := kb_both FM1
  have N : Names mg := ⟨PySem.W.mg_none_of X G z1, PySem.W.mg_none_of X G z2, PySem.W.mg_none_of X G z3, PySem.W.mg_none_of X G z4, PySem.W.mg_none_of X G z5, PySem.W.mg_none_of X G z6, PySem.W.mg_none_of X G z7, PySem.W.mg_none_of X G z8, PySem.W.mg_none_of X G z9, PySem.W.mg_none_of X G z10, PySem.W.mg_none_of X G z11, PySem.W.mg_none_of X G z12, PySem.W.mg_none_of X G z13⟩
  have Nb : mg "bool" = none := PySem.W.mg_none_of X G z14
  have NK : ∃ t, mg "KEYS" = some (.int 1000 t) := ⟨_, PySem.W.mg_of X G g1⟩
  have T : Txt K mg C := ⟨⟨pg, hd, po, sa⟩, n1, n2, n3, n4, n5, n6, PySem.W.mg_of X G aC⟩
  have mkT : Mk K C fM1 := ⟨mk, aM1, iM1, kc⟩
  have TK := oexB_ok xLK xRK xOK
  have EK := excB_ok X G aCK xBK
  have ZK : SupF l.prog K mg CK AK := supB_ok X G xP xSK
  have bIK : Binds K (PySem.W.fnX "__init__" "NoKey.__init__" (defArgs mNk) (defBody mNk) (defScope mNk) [("__class__", WK)] .none kvK dcK pmK anK (.ref AK) ctK) ["self", "key"] [] := .all fun us hl => match us, hl with | [_, _], _ => rfl
  have TS := oexB_ok xLS xRS xOS
  have ES := excB_ok X G aCS xBS
  have ZS : SupF l.prog K mg CS AS := supB_ok X G xP xSS
  have bIS : Binds K (PySem.W.fnX "__init__" "NotSure.__init__" (defArgs mNs) (defBody mNs) (defScope mNs) [("__class__", WS)] .none kvS dcS pmS anS (.ref AS) ctS) ["self", "key"] [] := .all fun us hl => match us, hl with | [_, _], _ => rfl
  refine ⟨PySem.W.fnOf "law" "law" (defArgs sLaw) (defBody sLaw) (defScope sLaw) .none kV21 dc21 pm21 an21 cd21 ct21, fun s v => .of_eq rfl, fun base _ _ => ?_⟩
  have dXK : OwnE l.prog w K mg base "NoKey" CK ["self", "key"] 1 (spX1 CK "key") := ⟨_, _, ok_nk (k := 0) xFK xCK TK ⟨_, xWK, rfl⟩ xNK ZK, TK, xIK, xTK, PySem.W.mg_of X G aCK, bIK⟩
  have dXS : OwnE l.prog w K mg base "NotSure" CS ["self", "key"] 1 (spX1 CS "key") := ⟨_, _, ok_ns (k := 0) xFS xCS TS ⟨_, xWS, rfl⟩ xNS ZS, TS, xIS, xTS, PySem.W.mg_of X G aCS, bIS⟩
  have dN : Own l.prog w K mg base "is_number" ["thing"] 1 spNum := ⟨_, _, ok_num (k := 0) F1 N Nb, PySem.W.mg_of X G a1, F1.kp, b1⟩
  have dKey : Own l.prog w K mg base "is_key" ["thing"] 2 spKeyI := ⟨_, _, ok_keyI (k := 1) F2 NK dN (by decide), PySem.W.mg_of X G a2, F2.kp, b2⟩
  have dRi : Own l.prog w K mg base "rising" ["rows"] 1 (spRising K) := ⟨_, _, ok_rising (k := 0) F3 N, PySem.W.mg_of X G a3, F3.kp, b3⟩
  have dSo : Own l.prog w K mg base "stretches_of" ["keys"] 1 (spSo K) := ⟨_, _, ok_so (k := 0) F4 N, PySem.W.mg_of X G a4, F4.kp, b4⟩
  have dLp : Own l.prog w K mg base "learn_piece" ["known", "stretch", "rows"] 1 (spLp K) := ⟨_, _, ok_lp (k := 0) F5 N, PySem.W.mg_of X G a5, F5.kp, b5⟩
  have dKr : Own l.prog w K mg base "known_rows" ["known"] 2 (spKr K) := ⟨_, _, ok_kr (k := 1) F6 N dRi (by decide), PySem.W.mg_of X G a6, F6.kp, b6⟩
  have dT : Own l.prog w K mg base "_law_take" ["bag", "many"] 1 spTake := ⟨_, _, ok_take (k := 0) F8, PySem.W.mg_of X G a8, F8.kp, b8⟩
  have dTw : Own l.prog w K mg base "_law_take" ["bag", "many"] 1 spTakeW := ⟨_, _, ok_takeW (k := 0) F8, PySem.W.mg_of X G a8, F8.kp, b8⟩
  have dB : Own l.prog w K mg base "_law_bag" ["script", "k"] 1 (spBag K) := ⟨_, _, ok_bag (k := 0) F7 N, PySem.W.mg_of X G a7, F7.kp, b7⟩
  have dOf : Own l.prog w K mg base "_law_of" ["bag", "some"] 2 spOf := ⟨_, _, ok_of (k := 1) (kO := 0) (kC := 0) F9 N dT (by decide), PySem.W.mg_of X G a9, F9.kp, b9⟩
  have dKs : Own l.prog w K mg base "_law_keys" ["bag"] 2 spKeysQ := ⟨_, _, ok_keys F10 N dT, PySem.W.mg_of X G a10, F10.kp, b10⟩
  have dTb : Own l.prog w K mg base "_law_table" ["bag", "keys"] 2 (spTabP K) := ⟨_, _, ok_tab F11 N dT, PySem.W.mg_of X G a11, F11.kp, b11⟩
  have dPs : Own l.prog w K mg base "_law_pairs" ["rows"] 1 (spPairs K) := ⟨_, _, ok_pairs (k := 0) F12 N, PySem.W.mg_of X G a12, F12.kp, b12⟩
  have dSt : Own l.prog w K mg base "_law_stretch" ["bag", "keys"] 3 (spStr K) := ⟨_, _, ok_str (k := 2) F13 N dT (by decide) dOf (by decide), PySem.W.mg_of X G a13, F13.kp, b13⟩
  have dSp : Own l.prog w K mg base "_law_spans" ["keys"] 1 (spSpans K) := ⟨_, _, ok_spans (k := 0) F14 N, PySem.W.mg_of X G a14, F14.kp, b14⟩
  have dTn : Own l.prog w K mg base "_law_taker_new" ["life", "sav1"] 1 (spTn K) := ⟨_, _, ok_tn (k := 0) F15 N, PySem.W.mg_of X G a15, F15.kp, b15⟩
  have dSv : Own l.prog w K mg base "_law_saved" ["bag", "keys"] 4 (spSv K) := ⟨_, _, ok_sv (k := 3) F17 N dT (by decide) dSt (by decide) dTb (by decide) dSp (by decide), PySem.W.mg_of X G a17, F17.kp, b17⟩
  have KLife : FnOk l.prog w K mg base CX0 1 fM3 _ ["self"] (spOne C fun life _ => .int life) := ok_life (k := 0) FM3 T
  have KPlace : FnOk l.prog w K mg base CX0 1 fM4 _ ["self"] (spOne C fun _ a => .int a) := ok_place (k := 0) FM4 T
  have KRows : FnOk l.prog w K mg base CX0 3 fM5 _ ["self"] (spRows K C) := ok_rows (k := 2) FM5 T dKr (by decide)
  have KSure : FnOk l.prog w K mg base CX0 2 fM6 _ ["self"] (spSureM K C) := ok_sureM (k := 1) FM6 T N dSo (by decide)
  have KEvents : FnOk l.prog w K mg base CX0 1 fM8 _ ["self"] (spEvents K C) := ok_events (k := 0) FM8 T N
  have KAsked : FnOk l.prog w K mg base CX0 1 fM9 _ ["self"] (spAsked C) := ok_asked (k := 0) FM9 T N
  have KSaved : FnOk l.prog w K mg base CX0 4 fM10 _ ["self"] (spSaved K C) := ok_saved (k := 3) FM10 T KRows bM5 qRows (by decide) KSure bM6 qSure (by decide)
  have KLen : FnOk l.prog w K mg base CX0 4 fM11 _ ["self"] (spLen K C) := ok_len (k := 3) FM11 T N KRows bM5 qRows (by decide)
  have KBegin : FnOk l.prog w K mg base CX0 2 fM2 _ ["self", "saved"] (spBegin K C) := ok_begin (k := 1) FM2 T dLp (by decide)
  have KInit : FnOk l.prog w K mg base CX0 3 fM1 _ ["self", "life", "place", "saved"] (spInit K C) := ok_init (k := 2) FM1 T KBegin bM2 qBegin (by decide)
  have dTs : Own l.prog w K mg base "_law_taker_so" ["taker", "own"] 6 (spTs K C) := ⟨_, _, ok_ts (k := 5) F16 T N KLife bM3 qLife (by decide) KPlace bM4 qPlace (by decide) KRows bM5 qRows (by decide) KSure bM6 qSure (by decide) KSaved bM10 qSaved (by decide) KAsked bM9 qAsked (by decide) KEvents bM8 qEvents (by decide) KLen bM11 qLen (by decide) dPs (by decide) dSp (by decide), PySem.W.mg_of X G a16, F16.kp, b16⟩
  have KInitN : FnOk l.prog w K mg base CX0 1 fM1 _ ["self", "life", "place", "saved"] (spInitN C) := ok_initN (k := 0) FM1 T
  have dWx : MethX l.prog w K mg base C "worth" ["self", "key"] 4 (spWorthX C CK CS) := ⟨_, _, ok_worthX (k := 3) FM7 T dKey (by decide) dXK (by decide) dXS (by decide), bM7, qWorth⟩
  have dKi : OwnP l.prog w K mg base "_law_kinds" ["e"] 1 (spKinds K mg) := ⟨_, _, ok_kinds (k := 0) F18 N, PySem.W.mg_of X G a18, F18.kp, b18⟩
  have dFi : OwnP l.prog w K mg base "_law_field" ["e"] 1 (spField K mg) := ⟨_, _, ok_field (k := 0) F19 N, PySem.W.mg_of X G a19, F19.kp, b19⟩
  have dWo : Own l.prog w K mg base "_law_worth_of" ["taker", "key"] 5 (spWof C) := ⟨_, _, ok_wof (k := 4) F20 T (PySem.W.mg_of X G aT) EK xNK eK ES xNS eS dWx (by decide) dKi (by decide) dFi (by decide), PySem.W.mg_of X G a20, F20.kp, b20⟩
  exact ok_law (k := 6) F21 N T mkT KInit (by decide) KInitN (by decide) bI bP vN bN bB dB (by decide) dT (by decide) dTw (by decide) dKs (by decide) dSv (by decide) dTn (by decide) dTs (by decide) dWo (by decide)
end K19
open PySem PySem.W PyProof.Rows
set_option maxHeartbeats 0 in
theorem PySem.Challenge.cw_tidecopy_k19_new_takers_holds : PySem.Challenge.rw_tidecopy_k19_new_takers.Holds := by
  w_on; o_law; k_head; (case hw => w_witness2)
  k_fill
  refine L2.walk_of (l := PySem.Challenge.rw_tidecopy_k19_new_takers) (n := 63) (k := 7) (x := "script") (CX := fun _ => L2.CX0) (sp := fun w => K19.spLaw _) rfl (by decide) rfl ⟨rfl, by decide, by decide⟩ (fun w h Y => PySem.W.kIn_of Y) ?F (fun _ _ a ns hl _ hS => ⟨a, ns, rfl, hS, hl, fun _ => rfl⟩) (fun _ _ _ _ _ h => h)
  case F =>
    intro w mg fa h KX G hmg
    refine' K19.all_mk KX G hmg ?aC ?aM1 ?iM1 ?lM1 ?cM1 ?kM1 ?aM2 ?iM2 ?lM2 ?cM2 ?kM2 ?aM3 ?iM3 ?lM3 ?cM3 ?kM3 ?aM4 ?iM4 ?lM4 ?cM4 ?kM4 ?aM5 ?iM5 ?lM5 ?cM5 ?kM5 ?aM6 ?iM6 ?lM6 ?cM6 ?kM6 ?aM7 ?iM7 ?lM7 ?cM7 ?kM7 ?aM8 ?iM8 ?lM8 ?cM8 ?kM8 ?aM9 ?iM9 ?lM9 ?cM9 ?kM9 ?aM10 ?iM10 ?lM10 ?cM10 ?kM10 ?aM11 ?iM11 ?lM11 ?cM11 ?kM11 ?nP ?nS ?hd ?pg ?po ?sa ?mk ?kc ?n1 ?n2 ?n3 ?n4 ?n5 ?n6 ?a1 ?l1 ?c1 ?k1 ?a2 ?l2 ?c2 ?k2 ?a3 ?l3 ?c3 ?k3 ?a4 ?l4 ?c4 ?k4 ?a5 ?l5 ?c5 ?k5 ?a6 ?l6 ?c6 ?k6 ?a7 ?l7 ?c7 ?k7 ?a8 ?l8 ?c8 ?k8 ?a9 ?l9 ?c9 ?k9 ?a10 ?l10 ?c10 ?k10 ?a11 ?l11 ?c11 ?k11 ?a12 ?l12 ?c12 ?k12 ?a13 ?l13 ?c13 ?k13 ?a14 ?l14 ?c14 ?k14 ?a15 ?l15 ?c15 ?k15 ?a16 ?l16 ?c16 ?k16 ?a17 ?l17 ?c17 ?k17 ?a18 ?l18 ?c18 ?k18 ?a19 ?l19 ?c19 ?k19 ?a20 ?l20 ?c20 ?k20 ?a21 ?l21 ?c21 ?k21 ?g1 ?z1 ?z2 ?z3 ?z4 ?z5 ?z6 ?z7 ?z8 ?z9 ?z10 ?z11 ?z12 ?z13 ?z14 ?aCK ?xLK ?xRK ?xOK ?xBK ?xIK ?xTK ?xFK ?xCK ?xWK ?xNK ?xSK ?aCS ?xLS ?xRS ?xOS ?xBS ?xIS ?xTS ?xFS ?xCS ?xWS ?xNS ?xSS ?aT ?eK ?eS ?xP
    (case aC => k_is)
    (case aM1 => k_is)
    (case iM1 => k_is)
    (case lM1 => k_is)
    (case cM1 => k_is)
    (case kM1 => k_is)
    (case aM2 => k_is)
    (case iM2 => k_is)
    (case lM2 => k_is)
    (case cM2 => k_is)
    (case kM2 => k_is)
    (case aM3 => k_is)
    (case iM3 => k_is)
    (case lM3 => k_is)
    (case cM3 => k_is)
    (case kM3 => k_is)
    (case aM4 => k_is)
    (case iM4 => k_is)
    (case lM4 => k_is)
    (case cM4 => k_is)
    (case kM4 => k_is)
    (case aM5 => k_is)
    (case iM5 => k_is)
    (case lM5 => k_is)
    (case cM5 => k_is)
    (case kM5 => k_is)
    (case aM6 => k_is)
    (case iM6 => k_is)
    (case lM6 => k_is)
    (case cM6 => k_is)
    (case kM6 => k_is)
    (case aM7 => k_is)
    (case iM7 => k_is)
    (case lM7 => k_is)
    (case cM7 => k_is)
    (case kM7 => k_is)
    (case aM8 => k_is)
    (case iM8 => k_is)
    (case lM8 => k_is)
    (case cM8 => k_is)
    (case kM8 => k_is)
    (case aM9 => k_is)
    (case iM9 => k_is)
    (case lM9 => k_is)
    (case cM9 => k_is)
    (case kM9 => k_is)
    (case aM10 => k_is)
    (case iM10 => k_is)
    (case lM10 => k_is)
    (case cM10 => k_is)
    (case kM10 => k_is)
    (case aM11 => k_is)
    (case iM11 => k_is)
    (case lM11 => k_is)
    (case cM11 => k_is)
    (case kM11 => k_is)
    (case nP => k_is)
    (case nS => k_is)
    (case hd => k_is)
    (case pg => k_is)
    (case po => k_is)
    (case sa => k_is)
    (case mk => k_is)
    (case kc => k_is)
    (case n1 => k_is)
    (case n2 => k_is)
    (case n3 => k_is)
    (case n4 => k_is)
    (case n5 => k_is)
    (case n6 => k_is)
    (case a1 => k_is)
    (case l1 => k_is)
    (case c1 => k_is)
    (case k1 => k_is)
    (case a2 => k_is)
    (case l2 => k_is)
    (case c2 => k_is)
    (case k2 => k_is)
    (case a3 => k_is)
    (case l3 => k_is)
    (case c3 => k_is)
    (case k3 => k_is)
    (case a4 => k_is)
    (case l4 => k_is)
    (case c4 => k_is)
    (case k4 => k_is)
    (case a5 => k_is)
    (case l5 => k_is)
    (case c5 => k_is)
    (case k5 => k_is)
    (case a6 => k_is)
    (case l6 => k_is)
    (case c6 => k_is)
    (case k6 => k_is)
    (case a7 => k_is)
    (case l7 => k_is)
    (case c7 => k_is)
    (case k7 => k_is)
    (case a8 => k_is)
    (case l8 => k_is)
    (case c8 => k_is)
    (case k8 => k_is)
    (case a9 => k_is)
    (case l9 => k_is)
    (case c9 => k_is)
    (case k9 => k_is)
    (case a10 => k_is)
    (case l10 => k_is)
    (case c10 => k_is)
    (case k10 => k_is)
    (case a11 => k_is)
    (case l11 => k_is)
    (case c11 => k_is)
    (case k11 => k_is)
    (case a12 => k_is)
    (case l12 => k_is)
    (case c12 => k_is)
    (case k12 => k_is)
    (case a13 => k_is)
    (case l13 => k_is)
    (case c13 => k_is)
    (case k13 => k_is)
    (case a14 => k_is)
    (case l14 => k_is)
    (case c14 => k_is)
    (case k14 => k_is)
    (case a15 => k_is)
    (case l15 => k_is)
    (case c15 => k_is)
    (case k15 => k_is)
    (case a16 => k_is)
    (case l16 => k_is)
    (case c16 => k_is)
    (case k16 => k_is)
    (case a17 => k_is)
    (case l17 => k_is)
    (case c17 => k_is)
    (case k17 => k_is)
    (case a18 => k_is)
    (case l18 => k_is)
    (case c18 => k_is)
    (case k18 => k_is)
    (case a19 => k_is)
    (case l19 => k_is)
    (case c19 => k_is)
    (case k19 => k_is)
    (case a20 => k_is)
    (case l20 => k_is)
    (case c20 => k_is)
    (case k20 => k_is)
    (case a21 => k_is)
    (case l21 => k_is)
    (case c21 => k_is)
    (case k21 => k_is)
    (case g1 => k_is)
    (case z1 => k_is)
    (case z2 => k_is)
    (case z3 => k_is)
    (case z4 => k_is)
    (case z5 => k_is)
    (case z6 => k_is)
    (case z7 => k_is)
    (case z8 => k_is)
    (case z9 => k_is)
    (case z10 => k_is)
    (case z11 => k_is)
    (case z12 => k_is)
    (case z13 => k_is)
    (case z14 => k_is)
    (case aCK => k_is)
    (case xLK => k_is)
    (case xRK => kernel_rfl)
    (case xOK => kernel_rfl)
    (case xBK => kernel_rfl)
    (case xIK => k_is)
    (case xTK => k_is)
    (case xFK => k_is)
    (case xCK => k_is)
    (case xWK => k_is)
    (case xNK => k_is)
    (case xSK => kernel_rfl)
    (case aCS => k_is)
    (case xLS => k_is)
    (case xRS => kernel_rfl)
    (case xOS => kernel_rfl)
    (case xBS => kernel_rfl)
    (case xIS => k_is)
    (case xTS => k_is)
    (case xFS => k_is)
    (case xCS => k_is)
    (case xWS => k_is)
    (case xNS => k_is)
    (case xSS => kernel_rfl)
    (case aT => k_is)
    (case eK => kernel_rfl)
    (case eS => kernel_rfl)
    (case xP => kernel_rfl)
