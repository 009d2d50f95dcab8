import PyProof.Rows.All
import Wide.All
import OpenK.AllK
import Wide.FinOn
import PyProof.NeKinds
import HandS.ForMost
import HandS.IsInst
import HandS.Conv
import HandS.Codes
import HandS.Evl
import HandS.Strs
import HandS.SetFor
import HandS.SortInts
import HandS.Steps
import PyProof.Rows.IntBool
import PyProof.CallStr
import PyProof.FitsInt
import PyProof.EqKinds
import HandS.Style
import HandS.TupMul
import HandS.SetBool
import HandS.DictComp
import KE.KDictPairs
import HandS.WordsDict
import HandS.Iter
import HandS.SortKw
import KE.GoesEnumKw
import HandS.More
import HandS.ExcInit
import HandS.Nested
import KE.KExcSuper
import HandS.HotCalls
import HandS.ExcField
import HandS.WordsExc
import KE.KExcIs
import HandS.FStr
import HandS.Text
import HandS.ExcInitHot
import HandS.OwnEq
import HandS.OwnIter
import HandS.Dict
import HandS.Defaults
import HandS.CallSlots
import HandS.TupAny
import HandS.ForDict
import HandS.Ends
import HandS.Words
import HandS.Head0
import HandS.Head1
import HandS.Head2
import HandS.HeadEnd
import HandS.HeadHook1
import HandS.HeadHook2
import HandS.Walk
import HandS.MakeKwOnly
import PySem.Challenge.RW_tidecopy_k27_whole_several_takers
set_option Elab.async false
set_option linter.all false
set_option maxRecDepth 100000
namespace Tc
open PySem L2
/-- a def of the text under its name, with its promise -/
def Own (P : Program) (w : World) (K : PySem.W.Frag) (mg : Str → Option Value) (base : Heap) (x : Str) (ps : List Str) (k : Nat) (sp : Sp) : Prop :=
  ∃ (f : Addr) (fd : FuncData), FnOk P w K mg base CX0 k f fd ps sp ∧ mg x = some (.ref f) ∧ PySem.W.keepIn K (.ref f) = true ∧ Binds K fd ps []
theorem pe_own {X : Cx} {x : Str} {ps : List Str} {k j : Nat} {sp : Sp} {e : Expr} {es : List Expr} {t : TA} {p pos : Pos} (d : Own X.prog X.w X.K X.mg X.base x ps k sp) (hr : Room j X.A) (hj : k ≤ j) (hg : Gl X x) (ha : PA X (e :: es) t)
    (he : starEach (e :: es) X.env = (false, eval e X.env) :: starEach es X.env := by rfl) (hdb : (x == ("__debug__" : Str)) = false := by decide) (hpl : (backTo pos (starEach es X.env)).any (·.1) = false := by rfl) :
    PE X (.Call (.Name x p) (e :: es) [] pos) (tCall sp [] E0 t) := by
  obtain ⟨f, fd, F, hm, hk, hb⟩ := d
  exact pe_call F (hr.mono hj) hg hm hk hb .nil pass0 ha hdb he hpl

/-! ### one object hidden: the bag of draws, which changes -/
def hid (b : Addr) (H : Hp) : Hp := fun a => if a = b then none else H a
theorem hid_same (b : Addr) (H : Hp) : Same (hid b H) H := fun a o h => by
  unfold hid at h
  split at h
  · cases h
  · exact h
theorem hid_at {b a : Addr} {H : Hp} {o : HO} (h : H a = some o) (n : a ≠ b) : hid b H a = some o := by
  unfold hid
  rw [if_neg n]
  exact h
theorem hid_self (b : Addr) (H : Hp) : hid b H b = none := by
  unfold hid
  rw [if_pos rfl]
theorem hid_upd (b : Addr) (H : Hp) (o : HO) : hid b (upd H b o) = hid b H := by
  funext a
  unfold hid
  by_cases h : a = b
  · rw [if_pos h, if_pos h]
  · rw [if_neg h, if_neg h, upd_ne h]
theorem hid_new {b : Addr} {H : Hp} (h : H b = none) : hid b H = H := by
  funext a
  unfold hid
  by_cases e : a = b
  · rw [if_pos e, e, h]
  · rw [if_neg e]
/-- the bag at b, and all else as it was or more -/
def Bag (H : Hp) (b : Addr) : Prop := ∃ x y : Int, H b = some (.lst [.int x, .int y]) ∧ 0 ≤ x ∧ 0 ≤ y ∧ y < 2147483648
structure Fr (b : Addr) (H H' : Hp) : Prop where
  bag : Bag H' b
  sm : Same (hid b H) (hid b H')
theorem Fr.refl {b : Addr} {H : Hp} (h : Bag H b) : Fr b H H := ⟨h, Same.refl _⟩
theorem Fr.trans {b : Addr} {H H1 H2 : Hp} (x : Fr b H H1) (y : Fr b H1 H2) : Fr b H H2 := ⟨y.bag, x.sm.trans y.sm⟩
theorem Bag.ne {b p : Addr} {H : Hp} (h : Bag H b) (n : H p = none) : p ≠ b := fun e => by
  obtain ⟨x, y, h, _⟩ := h
  rw [e, h] at n
  cases n
theorem Fr.new {b p : Addr} {H : Hp} {o : HO} (h : Bag H b) (n : H p = none) : Fr b H (upd H p o) := by
  have hp := h.ne n
  refine ⟨?_, fun a u e => ?_⟩
  · obtain ⟨x, y, h, r⟩ := h
    exact ⟨x, y, by rw [upd_ne hp.symm]; exact h, r⟩
  · have e1 := hid_same b H a u e
    have e2 : a ≠ b := fun z => by
      rw [z, hid_self] at e
      cases e
    exact hid_at (by rw [upd_ne (ne_of_none e1 n)]; exact e1) e2
/-- an object made on the way may change -/
theorem Fr.mut {b p : Addr} {H H' : Hp} {o : HO} (x : Fr b H H') (n : H p = none) (hb : p ≠ b) : Fr b H (upd H' p o) := by
  refine ⟨?_, fun a u e => ?_⟩
  · obtain ⟨x1, y, h, r⟩ := x.bag
    exact ⟨x1, y, by rw [upd_ne hb.symm]; exact h, r⟩
  · have e1 := hid_same b H a u e
    have e3 := x.sm a u e
    have e4 := hid_same b H' a u e3
    have e2 : a ≠ b := fun z => by
      rw [z, hid_self] at e
      cases e
    exact hid_at (by rw [upd_ne (ne_of_none e1 n)]; exact e4) e2
theorem Fr.at {b a : Addr} {H H' : Hp} {o : HO} (x : Fr b H H') (h : H a = some o) (n : a ≠ b) : H' a = some o := hid_same b H' a o (x.sm a o (hid_at h n))
theorem Fr.free {b p : Addr} {H H' : Hp} (x : Fr b H H') (hb : Bag H b) (h : H' p = none) : H p = none := by
  have hp : p ≠ b := x.bag.ne h
  cases e : H p with
  | none => rfl
  | some o =>
    rw [x.at e hp] at h
    cases h

/-! ### data -/
mutual
theorem dp_same {K : PySem.W.Frag} {H H' : Hp} (e : Same H H') : ∀ (d : PyData) (v : V), Dp K H v d → Dp K H' v d
  | _, _, .non => .non
  | _, _, .bl b => .bl b
  | _, _, .int i => .int i
  | _, _, .str x => .str x
  | _, _, .lst h r => .lst (Evl.ex_l e h) (dps_same e _ _ r)
  | _, _, .tup h r => .tup (Evl.ex_t e h) (dps_same e _ _ r)
theorem dps_same {K : PySem.W.Frag} {H H' : Hp} (e : Same H H') : ∀ (ds : List PyData) (vs : List V), DpAll K H vs ds → DpAll K H' vs ds
  | _, _, .nil => .nil
  | _, _, .cons h r => .cons (dp_same e _ _ h) (dps_same e _ _ r)
end
theorem dps_len {K : PySem.W.Frag} {H : Hp} : ∀ {vs : List V} {ds : List PyData}, DpAll K H vs ds → vs.length = ds.length
  | _, _, .nil => rfl
  | _, _, .cons _ r => congrArg (· + 1) (dps_len r)
theorem dps_at {K : PySem.W.Frag} {H : Hp} : ∀ {vs : List V} {ds : List PyData} {i : Nat} {v : V}, DpAll K H vs ds → vs[i]? = some v → ∃ d, ds[i]? = some d ∧ Dp K H v d
  | _, _, 0, _, .cons h r, e => ⟨_, rfl, by cases e; exact h⟩
  | _, _, i + 1, _, .cons h r, e => dps_at (i := i) r e
theorem dps_at' {K : PySem.W.Frag} {H : Hp} : ∀ {vs : List V} {ds : List PyData} {i : Nat} {d : PyData}, DpAll K H vs ds → ds[i]? = some d → ∃ v, vs[i]? = some v ∧ Dp K H v d
  | _, _, 0, _, .cons h r, e => ⟨_, rfl, by cases e; exact h⟩
  | _, _, i + 1, _, .cons h r, e => dps_at' (i := i) r e
theorem dps_app {K : PySem.W.Frag} {H : Hp} : ∀ {vs ws : List V} {ds es : List PyData}, DpAll K H vs ds → DpAll K H ws es → DpAll K H (vs ++ ws) (ds ++ es)
  | _, _, _, _, .nil, q => q
  | _, _, _, _, .cons h r, q => .cons h (dps_app r q)
theorem dps_take {K : PySem.W.Frag} {H : Hp} : ∀ {vs : List V} {ds : List PyData} (n : Nat), DpAll K H vs ds → DpAll K H (vs.take n) (ds.take n)
  | _, _, 0, _ => .nil
  | _, _, n + 1, .nil => .nil
  | _, _, n + 1, .cons h r => .cons h (dps_take n r)
theorem dps_drop {K : PySem.W.Frag} {H : Hp} : ∀ {vs : List V} {ds : List PyData} (n : Nat), DpAll K H vs ds → DpAll K H (vs.drop n) (ds.drop n)
  | _, _, 0, r => r
  | _, _, n + 1, .nil => .nil
  | _, _, n + 1, .cons h r => dps_drop n r
theorem dps_set {K : PySem.W.Frag} {H : Hp} : ∀ {vs : List V} {ds : List PyData} {v : V} {d : PyData} (n : Nat), DpAll K H vs ds → Dp K H v d → DpAll K H (vs.set n v) (ds.set n d)
  | _, _, _, _, _, .nil, _ => .nil
  | _, _, _, _, 0, .cons h r, q => .cons q r
  | _, _, _, _, n + 1, .cons h r, q => .cons h (dps_set n r q)
theorem dps_mem {K : PySem.W.Frag} {H : Hp} : ∀ {vs : List V} {ds : List PyData} {v : V}, DpAll K H vs ds → v ∈ vs → ∃ d ∈ ds, Dp K H v d
  | _, _, _, .cons h r, m => by
    rcases List.mem_cons.mp m with e | m
    · exact ⟨_, List.mem_cons_self, e ▸ h⟩
    · obtain ⟨d, a, b⟩ := dps_mem r m
      exact ⟨d, List.mem_cons_of_mem _ a, b⟩
/-! ### kinds -/
def tyN : PyData → String
  | .none => "NoneType"
  | .bool _ => "bool"
  | .int _ => "int"
  | .str _ => "str"
  | .list _ => "list"
  | .tuple _ => "tuple"
  | .dict _ => "dict"
theorem ty_tup {K : PySem.W.Frag} {H : Hp} {a : Addr} {xs : List V} (h : SqT K H a xs) : TyX K H (.ref a) (.type "tuple") := by
  rcases h with (h | ⟨o, h⟩) | ⟨o, its, n, hk, hc, _⟩
  · exact .base (.tup h)
  · exact .fTuple h
  · exact .kTuple hk hc
theorem ty_lst {K : PySem.W.Frag} {H : Hp} {a : Addr} {xs : List V} (h : SqL K H a xs) : TyX K H (.ref a) (.type "list") := by
  rcases h with (h | ⟨o, h⟩) | ⟨o, its, n, hk, hc, _⟩
  · exact .base (.lst h)
  · exact .base (.frz h)
  · exact .kList hk hc
theorem ty_dp {K : PySem.W.Frag} {H : Hp} {v : V} {d : PyData} (h : Dp K H v d) : TyX K H v (.type (tyN d)) := by
  cases h with
  | non => exact .base .non
  | bl b => exact .base (.bl b)
  | int i => exact .base (.int i)
  | str z => exact .base (.str z)
  | lst h r => exact ty_lst h
  | tup h r => exact ty_tup h
theorem dp_nodict {K : PySem.W.Frag} {H : Hp} {v : V} {d : PyData} (h : Dp K H v d) : ∀ kv, d ≠ .dict kv := by
  cases h <;> intro kv z <;> cases z
/-- isinstance of data -/
theorem isi {K : PySem.W.Frag} {H : Hp} {v : V} {d : PyData} {c : String} {b : Bool} {Q : VK} (h : Dp K H v d) (k : kitB (tyN d) c = some b) (q : Q (.bl b) H) : rIsi K [v, .ty c] H Q :=
  ⟨v, .ty c, .type (tyN d), .type c, b, rfl, .ty c, ty_dp h, kit_ty k, q⟩
def isInt : PyData → Bool
  | .int _ => true | .bool _ => true | _ => false
def isBool : PyData → Bool
  | .bool _ => true | _ => false
def isTup : PyData → Bool
  | .tuple _ => true | _ => false
def isLst : PyData → Bool
  | .list _ => true | _ => false
def isStr : PyData → Bool
  | .str _ => true | _ => false
theorem kit_int {d : PyData} (n : ∀ kv, d ≠ .dict kv) : kitB (tyN d) "int" = some (isInt d) := by
  cases d with
  | none => exact (by decide +kernel : kitB "NoneType" "int" = some false)
  | bool _ => exact (by decide +kernel : kitB "bool" "int" = some true)
  | int _ => exact (by decide +kernel : kitB "int" "int" = some true)
  | str _ => exact (by decide +kernel : kitB "str" "int" = some false)
  | list _ => exact (by decide +kernel : kitB "list" "int" = some false)
  | tuple _ => exact (by decide +kernel : kitB "tuple" "int" = some false)
  | dict kv => exact absurd rfl (n kv)
theorem kit_bool {d : PyData} (n : ∀ kv, d ≠ .dict kv) : kitB (tyN d) "bool" = some (isBool d) := by
  cases d with
  | none => exact (by decide +kernel : kitB "NoneType" "bool" = some false)
  | bool _ => exact (by decide +kernel : kitB "bool" "bool" = some true)
  | int _ => exact (by decide +kernel : kitB "int" "bool" = some false)
  | str _ => exact (by decide +kernel : kitB "str" "bool" = some false)
  | list _ => exact (by decide +kernel : kitB "list" "bool" = some false)
  | tuple _ => exact (by decide +kernel : kitB "tuple" "bool" = some false)
  | dict kv => exact absurd rfl (n kv)
theorem kit_tuple {d : PyData} (n : ∀ kv, d ≠ .dict kv) : kitB (tyN d) "tuple" = some (isTup d) := by
  cases d with
  | none => exact (by decide +kernel : kitB "NoneType" "tuple" = some false)
  | bool _ => exact (by decide +kernel : kitB "bool" "tuple" = some false)
  | int _ => exact (by decide +kernel : kitB "int" "tuple" = some false)
  | str _ => exact (by decide +kernel : kitB "str" "tuple" = some false)
  | list _ => exact (by decide +kernel : kitB "list" "tuple" = some false)
  | tuple _ => exact (by decide +kernel : kitB "tuple" "tuple" = some true)
  | dict kv => exact absurd rfl (n kv)
theorem kit_list {d : PyData} (n : ∀ kv, d ≠ .dict kv) : kitB (tyN d) "list" = some (isLst d) := by
  cases d with
  | none => exact (by decide +kernel : kitB "NoneType" "list" = some false)
  | bool _ => exact (by decide +kernel : kitB "bool" "list" = some false)
  | int _ => exact (by decide +kernel : kitB "int" "list" = some false)
  | str _ => exact (by decide +kernel : kitB "str" "list" = some false)
  | list _ => exact (by decide +kernel : kitB "list" "list" = some true)
  | tuple _ => exact (by decide +kernel : kitB "tuple" "list" = some false)
  | dict kv => exact absurd rfl (n kv)
theorem kit_str {d : PyData} (n : ∀ kv, d ≠ .dict kv) : kitB (tyN d) "str" = some (isStr d) := by
  cases d with
  | none => exact (by decide +kernel : kitB "NoneType" "str" = some false)
  | bool _ => exact (by decide +kernel : kitB "bool" "str" = some false)
  | int _ => exact (by decide +kernel : kitB "int" "str" = some false)
  | str _ => exact (by decide +kernel : kitB "str" "str" = some true)
  | list _ => exact (by decide +kernel : kitB "list" "str" = some false)
  | tuple _ => exact (by decide +kernel : kitB "tuple" "str" = some false)
  | dict kv => exact absurd rfl (n kv)
/-! ### a list beside the empty one -/
def rNeE (K : PySem.W.Frag) : R2 := fun x y H Q => ∃ (a b : Addr) (xs : List V), x = .ref a ∧ y = .ref b ∧ SqL K H a xs ∧ SqL K H b [] ∧ Q (.bl (!xs.isEmpty)) H
theorem op_neE {X : Cx} (hu : X.A.units + 64 < cLine) : OpR X (compareOp .NotEq) (rNeE X.K) := by
  intro pins s σ H x y v u Q I rx ry h
  obtain ⟨a, b, xs, rfl, rfl, ha, hb, q⟩ := h
  cases xs with
  | nil => exact op_neD hu pins s σ H _ _ v u Q I rx ry ⟨.list [], .list [], .lst ha .nil, .lst hb .nil, rfl, rfl, q⟩
  | cons z zs =>
    cases (show v = Value.ref a from rx)
    cases (show u = Value.ref b from ry)
    obtain ⟨i1, r1, l1, _⟩ := I.list ha
    obtain ⟨i2, r2, l2, _⟩ := I.list hb
    have h1 : (i1.toArray.size != i2.toArray.size) = true := by
      have e1 := r1.length
      have e2 := r2.length
      simp only [List.size_toArray]
      rw [← e1, ← e2]
      rfl
    exact SeqAt.RcNeAt.lists_lengths l1.isList l2.isList h1 (by omega) _ _ _ _ ⟨.bl true, H, I, rfl, q⟩
/-! ### evaluation of tests over data -/
section
open Evl
variable {K : PySem.W.Frag} {σ : L2.St} {H : Hp} {ta tb tc : TE} {x y z v : V} {d : PyData}
theorem rc_isi {c : String} {b : Bool} (h : Dp K H v d) (k : kitB (tyN d) c = some b) : RC (rIsi K) [v, .ty c] H (.bl b) := fun H1 e _ q => isi (dp_same e _ _ h) k (q H1 (Ex.refl H1))
theorem ev_isi {c : String} {b : Bool} (ha : Ev ta σ H v) (h : Dp K H v d) (k : kitB (tyN d) c = some b) : Ev (tCB (rIsi K) (tCons ta (tCons (tC (.ty c)) tNil))) σ H (.bl b) := ev_cb (ea_cons ha (ea_cons ev_c ea_nil)) (rc_isi h k)
theorem ev_int (ha : Ev ta σ H v) (h : Dp K H v d) : Ev (tCB (rIsi K) (tCons ta (tCons (tC (.ty "int")) tNil))) σ H (.bl (isInt d)) := ev_isi ha h (kit_int (dp_nodict h))
theorem ev_bool (ha : Ev ta σ H v) (h : Dp K H v d) : Ev (tCB (rIsi K) (tCons ta (tCons (tC (.ty "bool")) tNil))) σ H (.bl (isBool d)) := ev_isi ha h (kit_bool (dp_nodict h))
theorem ev_tuple (ha : Ev ta σ H v) (h : Dp K H v d) : Ev (tCB (rIsi K) (tCons ta (tCons (tC (.ty "tuple")) tNil))) σ H (.bl (isTup d)) := ev_isi ha h (kit_tuple (dp_nodict h))
theorem ev_str (ha : Ev ta σ H v) (h : Dp K H v d) : Ev (tCB (rIsi K) (tCons ta (tCons (tC (.ty "str")) tNil))) σ H (.bl (isStr d)) := ev_isi ha h (kit_str (dp_nodict h))
theorem ev_chain {p p' : Int → Int → Bool} {i j k : Int} (ha : Ev ta σ H (.int i)) (hb : Ev tb σ H (.int j)) (hc : Ev tc σ H (.int k)) :
    Ev (tChain (rI0 fun i j => .bl (p i j)) (rI0 fun i j => .bl (p' i j)) ta tb tc) σ H (.bl (p i j && p' j k)) := fun H1 e Q q =>
  ha H1 e _ fun H2 e2 => hb H2 (e.trans e2) _ fun H3 e3 => ⟨i, j, rfl, rfl, p i j, rfl, by
    cases h : p i j with
    | true => exact hc H3 ((e.trans e2).trans e3) _ fun H4 e4 => ⟨j, k, rfl, rfl, by
        rw [h] at q
        exact q H4 ((e2.trans e3).trans e4)⟩
    | false =>
      rw [h] at q
      exact q H3 (e2.trans e3)⟩
/-- a def that answers a truth of data -/
def spTold (K : PySem.W.Frag) (f : PyData → Bool) : Sp := fun vs H Q _ => ∃ (v : V) (d : PyData), vs = [v] ∧ Dp K H v d ∧ ∀ H', Ex H H' → Q (.bl (f d)) H'
theorem spv_told {f : PyData → Bool} (h : Dp K H v d) : SpV (spTold K f) [v] H (.bl (f d)) := fun H1 e Q q E => ⟨v, d, rfl, dp_same e _ _ h, fun H' e' => q H' e'⟩
theorem ev_told {f : PyData → Bool} {E : XK} (ha : Ev ta σ H v) (h : Dp K H v d) : Ev (tCall (spTold K f) [] E (tCons ta tNil)) σ H (.bl (f d)) := ev_call (ea_cons ha ea_nil) (spv_told h)
theorem ev_ixT {p : Addr} {xs : List V} {j : Nat} (ha : Ev ta σ H (.ref p)) (h : SqT K H p xs) (hj : xs[j]? = some v) : Ev (tOp (rIxT K) ta (tC (.int (j : Int)))) σ H v := ev_op ha ev_c (rv_ixT h (atI_nat hj))
theorem ev_lenT {p : Addr} {xs : List V} (ha : Ev ta σ H (.ref p)) (h : SqT K H p xs) : Ev (tCB (rLenS K) (tCons ta tNil)) σ H (.int (xs.length : Int)) := fun H1 e Q q =>
  ha H1 e _ fun H2 e2 => ⟨p, xs, rfl, Or.inr (ex_t (e.trans e2) h), q H2 e2⟩
theorem ev_ix0 {p : Addr} {xs : List V} (ha : Ev ta σ H (.ref p)) (h : SqT K H p (v :: xs)) : Ev (tOp (rIxT K) ta (tC (.int 0))) σ H v := ev_ixT (j := 0) ha h rfl
theorem ev_ix1 {p : Addr} {xs : List V} (ha : Ev ta σ H (.ref p)) (h : SqT K H p (x :: v :: xs)) : Ev (tOp (rIxT K) ta (tC (.int 1))) σ H v := ev_ixT (j := 1) ha h rfl
theorem two_of {α : Type} {l : List α} (h : l.length = 2) : ∃ x y, l = [x, y] := match l, h with | [x, y], _ => ⟨x, y, rfl⟩
theorem ev_glob {i : Int} (q : True) : Ev (tC (.int i)) σ H (.int i) := ev_c
end
end Tc
/-! sets of ints out of a list, and their sorted list, of any length -/
namespace Tc
open PySem L2 PyProof.Rows
section
variable {P : Program} {w : World} {A : Around} {E : Value → Shared → Prop} {s : Shared}
/-- the empty set as the model lays it -/
abbrev noneSet (w : World) : Obj := { cls := .type "set", dict := none, data := .set #[] 0 (.fresh 0 0 (!w.params.followText "set-order")) }
abbrev withSet (w : World) (s : Shared) : Shared := { s with heap := s.heap.push (noneSet w) }
/-- what is known behind set(..) of ints -/
def Made (w : World) (s : Shared) (ns : List Int) (s₂ : Shared) : Prop := ∃ (h' : Heap) (tk c : Nat), s₂ = { s with heap := h', toks := tk } ∧ SetR w h' s.heap.objs.size (fun j => decide (j ∈ ns)) c ∧ c ≤ ns.length ∧ ∀ b o, s.heap.get? b = some o → h'.get? b = some o
set_option maxHeartbeats 8000000 in
theorem call_set_ints {l : Addr} {items : Array Value} {ns : List Int} {Q : Value → Shared → Prop} (hh : A.handled = none) (hl : s.heap.IsList l items) (hit : IntsAre items.toList ns) (hb : ns.length + 1 < scanBound)
    (h : ∀ s₂, Made w s ns s₂ → Q (.ref s.heap.objs.size) s₂) : wpAny (model P w) A (call (.type "set") [.ref l]) Q E s := by
  have hisz : items.size = ns.length := by rw [← Array.length_toList]; exact IntsAre.length hit
  obtain ⟨⟨ocls, odict, odata, oslots⟩, hol, hcl, nl, hdl⟩ := hl
  simp only at hcl hdl
  subst hcl; subst hdl
  have lS : l < s.heap.objs.size := Heap.lt_size hol
  have hS : (withSet w s).heap.get? s.heap.objs.size = some (noneSet w) := Heap.get?_push_size _ rfl
  have hT : (withSet w s).TypeIs (.ref s.heap.objs.size) "set" := ⟨_, hS, rfl⟩
  have hol' := Heap.get?_push_of_some (noneSet w) hol
  have hl1 : (withSet w s).heap.IsList l items := ⟨_, hol', rfl, nl, rfl⟩
  obtain ⟨c0, tl0, p1⟩ := F.called_set.mro
  have p2 := F.called_set.made
  have p3 := F.called_set.sub
  have p4 := F.called_set.notType
  have p5 := F.called_set.canCreate
  have p6 := F.typeCall_set_1 (.ref l)
  have p7 := F.called_set.init.lookup
  have p8 := F.called_set.init.bind (.ref s.heap.objs.size)
  refine wpAny_call (codeAny_of_tree (show wpAny _ _ (callAny (.type "set") _) _ _ _ from wpAny_pure ⟨Code.quiet_builtin _ (by decide +kernel), codeAny_builtin F.entry_type_call ?_⟩))
  rw [Around.under_plain (weight_type_call_type "set" [.ref l] []) rfl]
  repeat (any_goals (first | assumption | wp_step))
  refine codeAny_mono (code_set_led1 (.ref l) (E := E) (Q₁ := fun obj s₁ => obj = .ref s.heap.objs.size ∧ s₁ = withSet w s) ⟨rfl, rfl⟩) fun r s₁ hr => ?_
  rcases r with e | fl
  · exact hr
  cases fl with
  | ret obj =>
    obtain ⟨rfl, rfl⟩ := hr
    repeat (any_goals (first | assumption | wp_step))
    refine codeAny_mono (codeAny_call_builtin (R := wants (fun r s₂ => r = .none ∧ Made w s ns s₂) E) F.called_set.init.plain F.entry_set_init (check_set_init_1 hT ?_)) fun r₂ s₂ hr₂ => ?_
    · have q1 := F.sub_list_set
      have q2 := F.sub_list_frozenset
      have q3 : (Value.type "list" == Value.type "dict") = false := by decide
      unfold Builtin.«set.__init__» noKeywords Builtin.Frozenset.updateFrom
      generalize hPI : pyIter = PI
      wp_walk
      subst hPI
      refine wpAny_pyIter_list hl1 (wpAny_bind (wpAny_runValue ?_))
      have z1 : (withSet w s).heap.objs.size = s.heap.objs.size + 1 := Heap.size_push ..
      have n1 : l ≠ (withSet w s).heap.objs.size := by
        rw [z1]
        exact Nat.ne_of_lt (Nat.lt_succ_of_lt lS)
      have n2 : s.heap.objs.size ∉ [(withSet w s).heap.objs.size, l] := by
        rw [z1]
        intro m
        simp only [List.mem_cons, List.not_mem_nil, or_false] at m
        rcases m with m | m
        · exact absurd m (Nat.ne_of_lt (Nat.lt_succ_self _))
        · exact absurd m (Nat.ne_of_gt lS)
      have each : ∀ (i : Nat) (v : Value), items[i]? = some v → ∃ (k : Int) (tok : Tok), ns[i]? = some k ∧ v = .int k tok := fun i v at_ => by
        have lt : i < ns.length := hisz ▸ (Array.getElem?_eq_some_iff.mp at_).1
        obtain ⟨tok, rfl⟩ := IntsAre.int_at hit i v (Array.getElem?_toList ▸ at_)
        exact ⟨ns[i], tok, List.getElem?_eq_getElem lt, by simp [lt]⟩
      refine set_update_ints ((Walks.list (by simp [hh]) _ l n1 items).toS) s.heap.objs.size n2 ns hisz hb each (items.size - 0) 0 _ (by omega) (Nat.zero_le _)
        ⟨⟨_, Heap.get?_push_size _ rfl, rfl, rfl⟩, hl1.push _⟩ ⟨0, Nat.le_refl 0, setR_new_at (Heap.get?_push_of_some _ hS)⟩ fun s' c' hm hc' hS' => ?_
      obtain ⟨h', gen', drw', tk', os1⟩ := s'
      cases (show gen' = s.gens from hm.gens)
      cases (show drw' = s.drawn from hm.drawn)
      cases (show os1 = s.os from hm.os)
      refine wpAny_pure (show wpAny _ _ (ret Value.none) _ _ _ from wpAny_pure ⟨rfl, h', tk', c', rfl, hS', by omega, fun b o e => ?_⟩)
      have b0 : b < s.heap.objs.size := Heap.lt_size e
      refine hm.heap b o (fun m => ?_) (Heap.get?_push_of_some _ (Heap.get?_push_of_some _ e))
      simp only [List.mem_cons, List.not_mem_nil, or_false] at m
      rcases m with m | m
      · exact absurd m (Nat.ne_of_lt b0)
      · exact absurd (m.trans z1) (Nat.ne_of_lt (Nat.lt_succ_of_lt b0))
    · rcases r₂ with e | f2
      · exact hr₂
      cases f2 with
      | ret r =>
        obtain ⟨rfl, m⟩ := hr₂
        repeat (any_goals (first | assumption | wp_step))
        exact h _ m
      | _ => exact hr₂.elim
  | _ => exact hr.elim
end
/-! ### the rules -/
section
variable {X : Cx}
/-- set(xs), xs a list of ints -/
def rSetL (K : PySem.W.Frag) (w : World) : List V → Hp → VK → Prop := fun xs H Q => ∃ (l : Addr) (ns : List Int), xs = [V.ref l] ∧ SqL K H l (ns.map V.int) ∧ ns.length ≤ 4000 ∧
  ∀ (p : Addr) (c : Nat), H p = none → c ≤ ns.length → Q (.ref p) (upd H p (SetO w p (fun j => decide (j ∈ ns)) c))
theorem cr_setL (hc : X.calm = true) : CallR X (.type "set") (rSetL X.K X.w) := by
  intro pins s σ H vs us Q I r ⟨l, ns, e0, hs, hz, q⟩
  subst e0
  rw [Vals.ref1 r]
  have ⟨its, rv, hl, _⟩ := I.list hs
  refine call_set_ints (ns := ns) (I.ok.hd hc) hl.isList rv.ints (by unfold scanBound; omega) fun s₂ m => ?_
  obtain ⟨h', tk, c, rfl, R, hc', k⟩ := m
  exact ⟨.ref _, upd H s.heap.objs.size (SetO X.w s.heap.objs.size (fun j => decide (j ∈ ns)) c), I.laid (t' := tk) k (Nat.le_refl _) (setO_new R), rfl, q _ c (I.hok.fresh (Nat.le_refl _)) hc'⟩
end
end Tc
/-! the sorted list of a set of ints, of any length -/
namespace Tc
open PySem L2 PyProof.Rows
section
variable {P : Program} {w : World} {A : Around} {E : Value → Shared → Prop} {s : Shared} {a : Addr}
set_option maxHeartbeats 9000000 in
/-- sorted(a set of ints): the road of the library's rule for fewer than 64 of them, with its sort of ints of any number -/
theorem sorted_any {S : Int → Bool} {n : Nat} {Q : Value → Shared → Prop} (R : SetR w s.heap a S n) (free : A.handled = none)
    (fin : ∀ s' p (out : List Value) (c : Nat) (ns : List Int), (∀ b o, s.heap.get? b = some o → s'.heap.get? b = some o) → s'.gens = s.gens → s'.os = s.os → s.heap.objs.size ≤ p →
      s'.heap.get? p = some (seqObj "list" out.toArray c) → IntsAre out ns → ns.Pairwise (· < ·) → (∀ k, k ∈ ns ↔ S k = true) → ns.length = n → ns.length ≤ sizeLine → Q (.ref p) s') : wpAny (model P w) A (call (.builtin "sorted") [.ref a]) Q E s := by
  obtain ⟨ob, ents, _, _, at1, exact1, dat, isI, once, mem, room, fits, count, ring, laid⟩ := R
  have many : ∀ {l : List Value}, l.Perm (ents.toList.map (·.2)) → l.length = n := fun pm => (pm.length_eq.trans (by simp)).trans count
  have size : n ≤ sizeLine := count ▸ fits_of_scanBound room
  refine Calls.call_function_entry kind_sorted plain_sorted entry_sorted (args_sorted1 _) (show wpAny _ _ (Builtin.«sorted» _) _ _ _ from ?_)
  refine wpAny_bind (m := checkCount "sorted" 1 1 _) (wpAny_pure (wpAny_bind (collect_set (A := A.in1) free ⟨ob, at1, exact1.1, dat⟩ fits room ring laid fun t vs keep old gens os pm => ?_)))
  /- the items, as ints -/
  have are : IntsAre vs (vs.map Builtin.Re.reRawOf) := ints_of vs fun v m => by
    have ⟨x, mx, ex⟩ := List.mem_map.mp (pm.mem_iff.mp m)
    have ⟨i, tok, hx, _⟩ := isI x mx
    exact ⟨i, tok, ex ▸ hx⟩
  have these : (vs.map Builtin.Re.reRawOf).Perm (ents.toList.map keyOf) := (pm.map Builtin.Re.reRawOf).trans (by rw [List.map_map]; exact .refl _)
  refine wpAny_bind (wpAny_newList ?_ ((many pm).symm ▸ size))
  generalize hL : t.heap.push (seqObj "list" vs.toArray 0) = L
  have new : L.get? t.heap.objs.size = some (seqObj "list" vs.toArray 0) := hL ▸ Heap.get?_push_size _ rfl
  refine wpAny_bind (wpAny_holding (wpAny_call_entry slot_list_sort ⟨_, new, rfl⟩ entry_list_sort (SrtO.list_sort_ord SrtO.swo_int new ((many pm).symm ▸ size) (fun lt => SrtO.ints_sortable are lt) fun out o1 o2 => ⟨_, rfl, ?_⟩) (args_list_sort _)))
  obtain ⟨r1, r2, r3⟩ := SrtO.ints_out are o1 o2
  have ⟨c, hc⟩ := sortedHeap_at (vs := vs) (out := out.toArray) new
  have all := r2.trans these
  have len := all.length_eq.trans ((List.length_map _).trans (Array.length_toList.trans count))
  refine wpAny_pure ⟨_, rfl, fin _ t.heap.objs.size out c _ (fun b u e => ?_) gens os old hc r1 (L2.lt_of_le_nodup _ r3 (all.nodup_iff.mpr once)) (fun k => all.mem_iff.trans (mem k).symm) len (len.symm ▸ size)⟩
  have lt := Heap.lt_size (keep b u e)
  show (sortedHeap L t.heap.objs.size vs out.toArray).get? b = some u
  rw [sortedHeap_old (Nat.ne_of_lt lt) (hL ▸ size_push' t.heap _ ▸ Nat.lt_succ_of_lt lt), ← hL]
  exact Heap.get?_push_of_some _ (keep b u e)
end
section
variable {X : Cx}
/-- sorted(s), s a set of ints: a new list, rising, of just its members -/
def rSortedSetA (w : World) : List V → Hp → VK → Prop := fun vs H Q => ∃ (a : Addr) (S : Int → Bool) (n : Nat), vs = [V.ref a] ∧ H a = some (SetO w a S n) ∧ ∀ (ms : List Int) (p : Addr), ms.Pairwise (· < ·) → (∀ k : Int, k ∈ ms ↔ S k = true) → ms.length = n → H p = none → Q (.ref p) (upd H p (.lst (ms.map V.int)))
theorem cr_sortedSetA (hc : X.calm = true) : CallR X (.builtin "sorted") (rSortedSetA X.w) := by
  intro pins s0 σ H vs us Q I r hyp
  obtain ⟨a, S, n, rfl, ha, q⟩ := hyp
  rw [Vals.ref1 r]
  refine sorted_any (setO_get I ha) (I.ok.hd hc) fun t p out c ms keep gens os far at2 are rise mem cnt size => ?_
  have none0 := I.hok.fresh far
  have ok : ObjOk X.prog X.w (upd H p (.lst (ms.map V.int))) t.heap p (.lst (ms.map V.int)) := ⟨(List.length_map (f := V.int)).symm ▸ size, out, c, vals_of_ints are, at2⟩
  have inv := I.call (g' := t.gens) (d' := t.drawn) (t' := t.toks) (ch := []) (Un.laid keep far none0) (I.hok.laid keep far ok) (gens ▸ I.bare) (fun _ z => nomatch z)
  have same : t = { s0 with heap := t.heap, gens := t.gens, drawn := t.drawn, toks := t.toks } := by
    obtain ⟨t1, t2, t3, t4, t5⟩ := t
    cases os
    rfl
  exact same ▸ ⟨.ref p, _, inv, rfl, q ms p rise mem cnt none0⟩
end
end Tc
namespace Tc
open PySem L2 Evl
section
variable {K : PySem.W.Frag} {σ : L2.St} {H : Hp} {ta tb tc te : TE} {x y z v : V} {d : PyData}
theorem s_next {D : Ends} {σ : L2.St} {H : Hp} (h : D.nx σ H) : tNext D σ H := h
theorem s_seq {D : Ends} {σ : L2.St} {H : Hp} {t u : TS} (h : t { D with nx := u D } σ H) : tSeq t u D σ H := h
theorem ev_l0 {p : Addr} {xs : List V} (ha : Ev ta σ H (.ref p)) (h : SqL K H p (v :: xs)) : Ev (tOp (rIxL K) ta (tC (.int 0))) σ H v := ev_op ha ev_c (rv_ixL h (atI_nat (j := 0) rfl))
theorem ev_l1 {p : Addr} {xs : List V} (ha : Ev ta σ H (.ref p)) (h : SqL K H p (x :: v :: xs)) : Ev (tOp (rIxL K) ta (tC (.int 1))) σ H v := ev_op ha ev_c (rv_ixL h (atI_nat (j := 1) rfl))
theorem ex_hid {b : Addr} {H H1 : Hp} (e : Ex H H1) : Same (hid b H) (hid b H1) := fun a u h => by
  have n : a ≠ b := fun z => by
    rw [z, hid_self] at h
    cases h
  exact hid_at (e a u (hid_same b H a u h)) n
theorem Fr.ex {b : Addr} {H H1 : Hp} (h : Bag H b) (e : Ex H H1) : Fr b H H1 := by
  obtain ⟨x, y, hb, r⟩ := h
  exact ⟨⟨x, y, e b _ hb, r⟩, ex_hid e⟩
theorem Fr.put {b : Addr} {H H1 : Hp} {x y : Int} (e : Ex H H1) (hx : 0 ≤ x) (hy : 0 ≤ y) (hz : y < 2147483648) : Fr b H (upd H1 b (.lst [.int x, .int y])) := by
  refine ⟨⟨x, y, upd_same, hx, hy, hz⟩, ?_⟩
  rw [hid_upd]
  exact ex_hid e
theorem rv_mod {i j : Int} (h : 0 < j) : RV (rI (fun _ j => 0 < j) fun i j => .int (i % j)) (.int i) (.int j) H (.int (i % j)) := fun H1 _ _ q => ⟨i, j, rfl, rfl, h, q H1 (Ex.refl H1)⟩
theorem rv_fdiv {i j : Int} (h : 0 < j) (h2 : j < 1073741824) : RV (rI CDiv fun i j => .int (i / j)) (.int i) (.int j) H (.int (i / j)) := fun H1 _ _ q => ⟨i, j, rfl, rfl, ⟨h, h2⟩, q H1 (Ex.refl H1)⟩
theorem rv_mul {i j : Int} (h : CMul i j) : RV (rI CMul fun i j => .int (i * j)) (.int i) (.int j) H (.int (i * j)) := fun H1 _ _ q => ⟨i, j, rfl, rfl, h, q H1 (Ex.refl H1)⟩
theorem rv_pow {i j : Int} (h : CPow i j) : RV (rI CPow fun i j => .int (i ^ j.toNat)) (.int i) (.int j) H (.int (i ^ j.toNat)) := fun H1 _ _ q => ⟨i, j, rfl, rfl, h, q H1 (Ex.refl H1)⟩
theorem rv_add {i j : Int} : RV (rI0 fun i j => .int (i + j)) (.int i) (.int j) H (.int (i + j)) := rv_I0
theorem rv_sub {i j : Int} : RV (rI0 fun i j => .int (i - j)) (.int i) (.int j) H (.int (i - j)) := rv_I0
theorem ev_abs {i : Int} (ha : Ev ta σ H (.int i)) : Ev (tCB (fun xs H Q => ∃ i, xs = [.int i] ∧ Q (.int (if i < 0 then -i else i)) H) (tCons ta tNil)) σ H (.int (if i < 0 then -i else i)) :=
  ev_cb (ea_cons ha ea_nil) fun H1 _ _ q => ⟨i, rfl, q H1 (Ex.refl H1)⟩
theorem ev_lx {p : Addr} {xs : List V} {j : Nat} (ha : Ev ta σ H (.ref p)) (hb : Ev tb σ H (.int (j : Int))) (h : SqL K H p xs) (hj : xs[j]? = some v) : Ev (tOp (rIxL K) ta tb) σ H v := ev_op ha hb (rv_ixL h (atI_nat hj))
/-- a new bag -/
def spBag (K : PySem.W.Frag) : Sp := fun vs H Q _ => ∃ (a : Addr) (ns : List Int) (k : Nat), vs = [.ref a, .int (k : Int)] ∧ SqL K H a (ns.map V.int) ∧ k ≤ 1000 ∧ ∀ b H', H b = none → Ex H H' → Bag H' b → Q (.ref b) H'
/-- a draw below m -/
def spTake : Sp := fun vs H Q _ => ∃ (b : Addr) (m : Int), vs = [.ref b, .int m] ∧ Bag H b ∧ 0 < m ∧ m < 1073741824 ∧ ∀ r H', Fr b H H' → 0 ≤ r → r < m → Q (.int r) H'
end
end Tc
namespace Tc
open PySem L2 Evl
section
variable {K : PySem.W.Frag} {σ : L2.St} {H : Hp} {ta tb tc te : TE} {t : TT} {x y z v : V} {d : PyData}
/-- a list comprehension over a tuple, changing nothing -/
theorem el_lcT {a : Addr} {xs : List V} {tl : TE} {j : Nat} {vs : List Nat} (f : Nat → Bool) (u : Nat → V) (h : Ev tl σ H (.ref a)) (hx : SqT K H a xs) (hz : xs.length ≤ 40000) (hw : ∀ x, wipe ((wipe σ vs).set j (some x)) vs = wipe σ vs)
    (ht : ∀ (i : Nat) (x : V) H1, Ex H H1 → xs[i]? = some x → EvT t ((wipe σ vs).set j (some x)) H1 (f i)) (he : ∀ (i : Nat) (x : V) H1, Ex H H1 → xs[i]? = some x → f i = true → Ev te ((wipe σ vs).set j (some x)) H1 (u i)) :
    EvL (tLc (iTup K tl) (gName j) t te vs) σ H (given xs.length f u) := fun H0 e Q q => h H0 e _ fun H1 e1 => ⟨a, rfl, ⟨xs, ex_t (e.trans e1) hx⟩, fun Dl hD =>
  lc_tup (xs := xs) (Cw H1 f u Dl) ⟨hD, Ex.new hD, upd_same⟩ (fun i H' _ p => ex_t ((e.trans e1).trans p.2.1) hx) (fun i x H' hi p => ⟨hw x, cw_turn p (by have := (List.getElem?_eq_some_iff.mp hi).1; omega) (ht i x H1 (e.trans e1) hi) (fun hf => he i x H1 (e.trans e1) hi hf)⟩)
    (fun H' ⟨n0, x0, d0⟩ => q Dl H' (fresh_back e1 n0) (e1.trans x0) d0)⟩
theorem et_yes : EvT tYes σ H true := fun H1 _ _ q => q H1 (Ex.refl H1)
theorem given_all (n : Nat) (u : Nat → V) : given n (fun _ => true) u = (List.range n).map u := by
  unfold given
  rw [List.filter_eq_self.mpr fun _ _ => rfl]
theorem given_empty (n : Nat) (f : Nat → Bool) (u : Nat → V) : (given n f u).isEmpty = true ↔ ∀ i, i < n → f i = false := by
  unfold given
  rw [List.isEmpty_iff, List.map_eq_nil_iff, List.filter_eq_nil_iff]
  constructor
  · intro h i hi
    cases e : f i with
    | true => exact absurd e (h i (List.mem_range.mpr hi))
    | false => rfl
  · intro h i hi
    rw [h i (List.mem_range.mp hi)]
    exact Bool.false_ne_true
/-- two rising lists of the same members are one -/
theorem rising_one : ∀ (a b : List Int), a.Pairwise (· < ·) → b.Pairwise (· < ·) → (∀ k, k ∈ a ↔ k ∈ b) → a = b
  | [], [], _, _, _ => rfl
  | [], y :: b, _, _, h => absurd ((h y).mpr List.mem_cons_self) (by simp)
  | x :: a, [], _, _, h => absurd ((h x).mp List.mem_cons_self) (by simp)
  | x :: a, y :: b, ha, hb, h => by
    obtain ⟨a1, a2⟩ := List.pairwise_cons.mp ha
    obtain ⟨b1, b2⟩ := List.pairwise_cons.mp hb
    have e : x = y := by
      rcases List.mem_cons.mp ((h x).mp List.mem_cons_self) with e | m
      · exact e
      · rcases List.mem_cons.mp ((h y).mpr List.mem_cons_self) with e | m2
        · exact e.symm
        · have p1 := b1 x m
          have p2 := a1 y m2
          omega
    subst e
    refine congrArg (x :: ·) (rising_one a b a2 b2 fun k => ⟨fun m => ?_, fun m => ?_⟩)
    · rcases List.mem_cons.mp ((h k).mp (List.mem_cons_of_mem _ m)) with e | m2
      · have := a1 k m
        omega
      · exact m2
    · rcases List.mem_cons.mp ((h k).mpr (List.mem_cons_of_mem _ m)) with e | m2
      · have := b1 k m
        omega
      · exact m2
/-- sorted(set(xs)) of ints -/
theorem el_sortset {w : World} {ns ms : List Int} (ha : EvL ta σ H (ns.map V.int)) (hl : ns.length ≤ 4000) (hm : ∀ l : List Int, l.Pairwise (· < ·) → (∀ k, k ∈ l ↔ k ∈ ns) → l = ms) :
    EvL (tCB (rSortedSetA w) (tCons (tCB (rSetL K w) (tCons ta tNil)) tNil)) σ H (ms.map V.int) := fun H1 e Q q =>
  ha H1 e _ fun p H2 hp e2 h2 => ⟨p, ns, rfl, sq_of h2, hl, fun s c hs hc => ⟨s, _, c, rfl, upd_same, fun l r hp1 hm1 hn hr => by
    have e3 := hm l hp1 fun k => by rw [hm1 k, decide_eq_true_eq]
    subst e3
    exact q r _ (fresh_back (e2.trans (Ex.new hs)) hr) ((e2.trans (Ex.new hs)).trans (Ex.new hr)) upd_same⟩⟩
theorem el_sortsetV {w : World} {a : Addr} {ns ms : List Int} (ha : Ev ta σ H (.ref a)) (hs : SqL K H a (ns.map V.int)) (hl : ns.length ≤ 4000) (hm : ∀ l : List Int, l.Pairwise (· < ·) → (∀ k, k ∈ l ↔ k ∈ ns) → l = ms) :
    EvL (tCB (rSortedSetA w) (tCons (tCB (rSetL K w) (tCons ta tNil)) tNil)) σ H (ms.map V.int) := fun H1 e Q q =>
  ha H1 e _ fun H2 e2 => ⟨a, ns, rfl, ex_l (e.trans e2) hs, hl, fun s c hs hc => ⟨s, _, c, rfl, upd_same, fun l r hp1 hm1 hn hr => by
    have e3 := hm l hp1 fun k => by rw [hm1 k, decide_eq_true_eq]
    subst e3
    exact q r _ (fresh_back (e2.trans (Ex.new hs)) hr) ((e2.trans (Ex.new hs)).trans (Ex.new hr)) upd_same⟩⟩
theorem dps_ints {ns : List Int} : DpAll K H (ns.map V.int) (ns.map PyData.int) := by
  induction ns with
  | nil => exact .nil
  | cons n ns ih => exact .cons (.int n) ih
theorem eqv_ints : ∀ a b : List Int, PyData.eqvAll (a.map PyData.int) (b.map PyData.int) = decide (a = b)
  | [], [] => rfl
  | [], y :: b => by simp [PyData.eqvAll]
  | x :: a, [] => by simp [PyData.eqvAll]
  | x :: a, y :: b => by
    rw [List.map_cons, List.map_cons, PyData.eqvAll, eqv_ints a b]
    simp [PyData.eqv]
    rfl
theorem shaped_ints (a : List Int) : SeqAt.shaped (.list (a.map PyData.int)) = true := by
  have h : ∀ a : List Int, PyData.canLayAll0 (a.map PyData.int) = true ∧ PyData.depthAll (a.map PyData.int) = 0 := by
    intro a
    induction a with
    | nil => exact ⟨rfl, rfl⟩
    | cons n a ih => exact ⟨by rw [List.map_cons, PyData.canLayAll0, ih.1]; rfl, by rw [List.map_cons, PyData.depthAll, ih.2]; rfl⟩
  unfold SeqAt.shaped
  rw [PyData.canLay0, (h a).1, PyData.depth, (h a).2]
  rfl
end
end Tc
/-! data made beside a bag of draws -/
namespace Tc
open PySem L2 Evl
/-- sizes of data: c counts how often it was changed, n how deep it is -/
def gd (c : Nat) : Nat → PyData → Bool
  | _, .none => true
  | _, .bool _ => true
  | _, .int i => decide (i.natAbs ≤ 10 ^ 31 + 1000 * c)
  | _, .str z => decide (z.length ≤ 100 * 3 ^ c)
  | n + 1, .list ds => decide (ds.length ≤ 1100 + c) && ds.all (gd c n)
  | n + 1, .tuple ds => decide (ds.length ≤ 1100 + c) && ds.all (gd c n)
  | _, _ => false
theorem gd_n {c : Nat} : ∀ (n : Nat) (d : PyData), gd c n d = true → gd c (n + 1) d = true
  | _, .none, _ => rfl
  | _, .bool _, _ => rfl
  | 0, .int i, h => h
  | n + 1, .int i, h => h
  | 0, .str i, h => h
  | n + 1, .str i, h => h
  | 0, .list ds, h => by cases h
  | 0, .tuple ds, h => by cases h
  | 0, .dict ds, h => by cases h
  | n + 1, .dict ds, h => by cases h
  | n + 1, .list ds, h => by
    rw [gd, Bool.and_eq_true, List.all_eq_true] at h ⊢
    exact ⟨h.1, fun d m => gd_n n d (h.2 d m)⟩
  | n + 1, .tuple ds, h => by
    rw [gd, Bool.and_eq_true, List.all_eq_true] at h ⊢
    exact ⟨h.1, fun d m => gd_n n d (h.2 d m)⟩
theorem gd_c {c : Nat} : ∀ (n : Nat) (d : PyData), gd c n d = true → gd (c + 1) n d = true
  | _, .none, _ => by rw [gd]
  | _, .bool _, _ => by rw [gd]
  | 0, .int i, h => decide_eq_true (by have := of_decide_eq_true (p := i.natAbs ≤ 10 ^ 31 + 1000 * c) h; omega)
  | n + 1, .int i, h => decide_eq_true (by have := of_decide_eq_true (p := i.natAbs ≤ 10 ^ 31 + 1000 * c) h; omega)
  | 0, .str z, h => decide_eq_true (by have := of_decide_eq_true (p := z.length ≤ 100 * 3 ^ c) h; rw [Nat.pow_succ]; omega)
  | n + 1, .str z, h => decide_eq_true (by have := of_decide_eq_true (p := z.length ≤ 100 * 3 ^ c) h; rw [Nat.pow_succ]; omega)
  | 0, .list ds, h => by cases h
  | 0, .tuple ds, h => by cases h
  | 0, .dict ds, h => by cases h
  | n + 1, .dict ds, h => by cases h
  | n + 1, .list ds, h => by
    rw [gd, Bool.and_eq_true, List.all_eq_true, decide_eq_true_eq] at h ⊢
    exact ⟨by omega, fun d m => gd_c n d (h.2 d m)⟩
  | n + 1, .tuple ds, h => by
    rw [gd, Bool.and_eq_true, List.all_eq_true, decide_eq_true_eq] at h ⊢
    exact ⟨by omega, fun d m => gd_c n d (h.2 d m)⟩
theorem gd_le {c n m : Nat} {d : PyData} (h : gd c n d = true) (hm : n ≤ m) : gd c m d = true := by
  induction hm with
  | refl => exact h
  | step _ ih => exact gd_n _ _ ih
theorem gd_lc {c e n : Nat} {d : PyData} (h : gd c n d = true) (hm : c ≤ e) : gd e n d = true := by
  induction hm with
  | refl => exact h
  | step _ ih => exact gd_c _ _ ih
theorem gd_tup {c n : Nat} {ds : List PyData} : gd c (n + 1) (.tuple ds) = true ↔ ds.length ≤ 1100 + c ∧ ∀ d ∈ ds, gd c n d = true := by
  rw [gd, Bool.and_eq_true, List.all_eq_true, decide_eq_true_eq]
theorem gd_lst {c n : Nat} {ds : List PyData} : gd c (n + 1) (.list ds) = true ↔ ds.length ≤ 1100 + c ∧ ∀ d ∈ ds, gd c n d = true := by
  rw [gd, Bool.and_eq_true, List.all_eq_true, decide_eq_true_eq]
section
variable {b : Addr} {K : PySem.W.Frag} {σ : L2.St} {H : Hp} {ta tb tc te : TE} {t : TT} {x y z v : V} {d : PyData}
theorem dpt_new {p : Addr} {vs : List V} {ds : List PyData} (hb : Bag H b) (hp : H p = none) (h : DpAll K (hid b H) vs ds) : Dp K (hid b (upd H p (.tup vs))) (.ref p) (.tuple ds) :=
  .tup (st_of (hid_at upd_same (hb.ne hp))) (dps_same (Fr.new hb hp).sm _ _ h)
theorem fr_back {b p : Addr} {H H1 : Hp} (e : Fr b H H1) (hp : H1 p = none) : H p = none ∨ p = b := by
  by_cases h : p = b
  · exact .inr h
  · cases e1 : H p with
    | none => exact .inl rfl
    | some o =>
      rw [e.at e1 h] at hp
      cases hp
theorem fr_back' {b p : Addr} {H H1 : Hp} (e : Fr b H H1) (hp : H1 p = none) : H p = none := by
  rcases fr_back e hp with h | h
  · exact h
  · exact absurd h (e.bag.ne hp)
end
end Tc
namespace Tc
open PySem L2 Evl
section
variable {b : Addr} {K : PySem.W.Frag} {σ : L2.St} {H : Hp} {ta tb tc te : TE} {t : TT} {x y z v : V} {d : PyData} {Q : VK} {E : XK}
theorem take_of {ta : TA} {m : Int} (hB : Bag H b) (ha : EvA ta σ H [.ref b, .int m]) (h0 : 0 < m) (h1 : m < 1073741824) (q : ∀ r H', Fr b H H' → 0 ≤ r → r < m → Q (.int r) H') : tCall spTake [] E ta σ H Q :=
  ha H (Ex.refl H) _ fun H1 e => ⟨b, m, rfl, (Fr.ex hB e).bag, h0, h1, fun r H' fr => q r H' ((Fr.ex hB e).trans fr)⟩
theorem el_cat {xs ys : List V} (ha : EvL ta σ H xs) (hb : EvL tb σ H ys) (hl : xs.length + ys.length ≤ 100000) : EvL (tOp rCat ta tb) σ H (xs ++ ys) := fun H1 e Q q =>
  ha H1 e _ fun p H2 hp e2 h2 => hb H2 (e.trans e2) _ fun r H3 hr e3 h3 => ⟨p, r, xs, ys, rfl, rfl, e3 p _ h2, h3, sz_of hl, fun s hs => q s _ (fresh_back (e2.trans e3) hs) ((e2.trans e3).trans (Ex.new hs)) upd_same⟩
theorem el_is {xs ys : List V} (h : EvL te σ H xs) (e : xs = ys) : EvL te σ H ys := e ▸ h
/-- an item of a new list by a draw -/
theorem item_new {xs : List V} {tb : TE} (ha : EvL ta σ H xs) (hB : Bag H b) (h : ∀ H1, Fr b H H1 → ∀ Q : VK, (∀ r H', Fr b H1 H' → 0 ≤ r → r < (xs.length : Int) → Q (.int r) H') → tb σ H1 Q) (q : ∀ v H', Fr b H H' → v ∈ xs → Q v H') : tOp (rIxL K) ta tb σ H Q :=
  ha H (Ex.refl H) _ fun p H1 hp e h1 => h H1 (Fr.ex hB e) _ fun r H2 f2 h0 h3 => by
    obtain ⟨n, rfl⟩ : ∃ n : Nat, r = (n : Int) := ⟨r.toNat, by omega⟩
    have hlt : n < xs.length := by omega
    have hpb : p ≠ b := hB.ne hp
    exact ⟨p, xs, n, xs[n], rfl, rfl, sq_of (f2.at h1 hpb), atI_nat (List.getElem?_eq_getElem hlt), q _ _ ((Fr.ex hB e).trans f2) (List.getElem_mem hlt)⟩
/-- keys of a table -/
def spKeys : Sp := fun vs H Q _ => ∃ b : Addr, vs = [.ref b] ∧ Bag H b ∧ ∀ l (ks : List Int) H', Fr b H H' → H l = none → l ≠ b → H' l = some (.lst (ks.map V.int)) → (∀ k ∈ ks, 0 ≤ k ∧ k < 1000) → ks.length ≤ 1000 → Q (.ref l) H'
end
end Tc
namespace Tc
open PySem L2 Evl
theorem same_hid {D : Addr} {H H' : Hp} (e : Same H H') : Same (hid D H) (hid D H') := fun a u h => by
  have n : a ≠ D := fun z => by
    rw [z, hid_self] at h
    cases h
  exact hid_at (e a u (hid_same D H a u h)) n
theorem hid_upd2 {b D : Addr} (H : Hp) (o : HO) (n : D ≠ b) : hid D (hid b (upd H D o)) = hid D (hid b H) := by
  funext a
  unfold hid
  by_cases h : a = D
  · rw [if_pos h, if_pos h]
  · rw [if_neg h, if_neg h]
    by_cases h2 : a = b
    · rw [if_pos h2, if_pos h2]
    · rw [if_neg h2, if_neg h2, upd_ne h]
/-- a list at D that collects data, beside a bag at b -/
structure Col (b : Addr) (K : PySem.W.Frag) (g : PyData → Bool) (H : Hp) (D : Addr) (i : Nat) (H' : Hp) : Prop where
  fr : Fr b H H'
  new : H D = none
  ne : D ≠ b
  ex : ∃ (vs : List V) (ds : List PyData), H' D = some (.lst vs) ∧ DpAll K (hid D (hid b H')) vs ds ∧ vs.length ≤ i ∧ ∀ d ∈ ds, g d = true
section
variable {b D : Addr} {K : PySem.W.Frag} {g : PyData → Bool} {H H' H4 : Hp} {i : Nat} {y : V} {d : PyData}
theorem Col.start (hB : Bag H b) (hD : H D = none) : Col b K g H D 0 (upd H D (.lst [])) := ⟨Fr.new hB hD, hD, hB.ne hD, [], [], upd_same, .nil, Nat.le_refl _, fun d m => by simp at m⟩
theorem Col.skip (c : Col b K g H D i H') (f : Fr b H' H4) : Col b K g H D (i + 1) H4 := by
  obtain ⟨vs, ds, h1, h2, h3, h4⟩ := c.ex
  exact ⟨c.fr.trans f, c.new, c.ne, vs, ds, f.at h1 c.ne, dps_same (same_hid f.sm) _ _ h2, by omega, h4⟩
theorem Col.push (c : Col b K g H D i H') (f : Fr b H' H4) (hy : Dp K (hid D (hid b H4)) y d) (hg : g d = true) (hi : i < 10000) : ∃ acc, H4 D = some (.lst acc) ∧ acc.length < sizeLine ∧ Col b K g H D (i + 1) (upd H4 D (.lst (acc ++ [y]))) := by
  obtain ⟨vs, ds, h1, h2, h3, h4⟩ := c.ex
  refine ⟨vs, f.at h1 c.ne, sz_lt (by omega), Fr.mut (c.fr.trans f) c.new c.ne, c.new, c.ne, vs ++ [y], ds ++ [d], upd_same, ?_, by simp; omega, fun e m => ?_⟩
  · rw [hid_upd2 _ _ c.ne]
    exact dps_app (dps_same (same_hid f.sm) _ _ h2) (.cons hy .nil)
  · rcases List.mem_append.mp m with m | m
    · exact h4 e m
    · rw [List.mem_singleton.mp m]
      exact hg
/-- a pair of ints, new -/
theorem dp_pair {p : Addr} {k r : Int} (hB : Bag H b) (hD : H D ≠ none) (hp : H p = none) : Dp K (hid D (hid b (upd H p (.tup [.int k, .int r])))) (.ref p) (.tuple [.int k, .int r]) :=
  .tup (st_of (hid_at (hid_at upd_same (hB.ne hp)) fun z => hD (z ▸ hp))) (.cons (.int k) (.cons (.int r) .nil))
theorem Col.at (c : Col b K g H D i H') : H' D ≠ none := by
  obtain ⟨vs, ds, h1, _⟩ := c.ex
  rw [h1]
  exact fun z => nomatch z
/-- tuple(..) of what was collected -/
theorem Col.tup {te : TE} {σ : L2.St} {Q : VK} {i : Nat} (h : ∀ Q' : VK, (∀ p H', Col b K g H p i H' → Q' (.ref p) H') → te σ H Q') (hz : i ≤ 1100)
    (q : ∀ v d H', Fr b H H' → Dp K (hid b H') v d → (∃ ds : List PyData, d = .tuple ds ∧ ds.length ≤ i ∧ ∀ d ∈ ds, g d = true) → Q v H') :
    tCB (fun xs H Q => ∃ p ys, xs = [.ref p] ∧ ((SqL K H p ys ∧ ∀ l, H l = none → Q (.ref l) (upd H l (.tup ys))) ∨ (SqT K H p ys ∧ Q (.ref p) H))) (tCons te tNil) σ H Q :=
  h _ fun p H' c => by
    obtain ⟨vs, ds, h1, h2, h3, h4⟩ := c.ex
    refine ⟨p, vs, rfl, .inl ⟨sq_of h1, fun l hl => q (.ref l) (.tuple ds) _ (c.fr.trans (Fr.new c.fr.bag hl)) (dpt_new c.fr.bag hl (dps_same (hid_same p _) _ _ h2)) ⟨ds, rfl, by rw [← dps_len h2]; exact h3, h4⟩⟩⟩
/-- a table of drawn worths -/
def spTab (K : PySem.W.Frag) : Sp := fun vs H Q _ => ∃ (b l : Addr) (ks : List Int), vs = [.ref b, .ref l] ∧ Bag H b ∧ l ≠ b ∧ H l = some (.lst (ks.map V.int)) ∧ (∀ k ∈ ks, 0 ≤ k ∧ k < 1000) ∧ ks.length ≤ 1000 ∧ ∀ v d H', Fr b H H' → Dp K (hid b H') v d → gd 0 2 d = true → Q v H'
theorem gd_pair {k r : Int} (h0 : 0 ≤ k) (h1 : k < 100000) (h2 : 0 ≤ r) (h3 : r < 100000) : gd 0 1 (.tuple [.int k, .int r]) = true := by
  refine gd_tup.mpr ⟨by simp, fun d m => ?_⟩
  simp only [List.mem_cons, List.not_mem_nil, or_false] at m
  rcases m with rfl | rfl
  · exact decide_eq_true (by have : (100000 : Nat) ≤ 10 ^ 31 := by decide
                             omega)
  · exact decide_eq_true (by have : (100000 : Nat) ≤ 10 ^ 31 := by decide
                             omega)
end
end Tc
namespace Tc
open PySem L2 Evl
section
variable {X : Cx}
def rAddB : R2 := fun x y H Q => ∃ (k : Bool) (i : Int), x = .bl k ∧ y = .int i ∧ Q (.int ((if k = true then (1 : Int) else 0) + i)) H
def rSubB : R2 := fun x y H Q => ∃ (k : Bool) (i : Int), x = .bl k ∧ y = .int i ∧ Q (.int ((if k = true then (1 : Int) else 0) - i)) H
def rNegB : V → Hp → VK → Prop := fun x H Q => ∃ k : Bool, x = .bl k ∧ Q (.int (-(if k = true then (1 : Int) else 0))) H
def rStrB : List V → Hp → VK → Prop := fun xs H Q => ∃ k : Bool, xs = [.bl k] ∧ Q (.str (if k = true then "True" else "False")) H
theorem op_add_bi : OpR X (binaryOp .Add) rAddB := by
  intro pins s σ H x y v u Q I rx ry h
  obtain ⟨k, i, rfl, rfl, q⟩ := h
  cases (show v = Value.bool k from rx)
  obtain ⟨t, rfl⟩ := ry
  exact IntBool.add_bool_int ⟨.int _, H, I.tok _, ⟨_, rfl⟩, q⟩
theorem op_sub_bi : OpR X (binaryOp .Sub) rSubB := by
  intro pins s σ H x y v u Q I rx ry h
  obtain ⟨k, i, rfl, rfl, q⟩ := h
  cases (show v = Value.bool k from rx)
  obtain ⟨t, rfl⟩ := ry
  exact IntBool.sub_bool_int ⟨.int _, H, I.tok _, ⟨_, rfl⟩, q⟩
theorem gives_neg_b (k : Bool) : Gives (Builtin.«int.__neg__» ⟨[.bool k], []⟩) (.int (-(if k = true then (1 : Int) else 0))) := .of_eq (by cases k <;> rfl)
theorem un_neg_b : UnR X (unaryOp .USub) rNegB := by
  intro pins s σ H x v Q I rx h
  obtain ⟨k, rfl, q⟩ := h
  cases (show v = Value.bool k from rx)
  exact unaryOp_gives (op := .USub) (typeIs_bool s k) rfl F.slot_bool_neg F.entry_int_neg (F.args_int_neg_1 _) (gives_neg_b k) ⟨.int _, H, I.tok _, ⟨_, rfl⟩, q⟩
theorem call_str_b : CallR X (.type "str") rStrB := by
  intro pins s σ H xs us Q I r h
  obtain ⟨k, rfl, q⟩ := h
  obtain ⟨u, rfl, r1⟩ := vals1 r
  cases (show u = Value.bool k from r1)
  refine PySem.P.str_of_bool ?_
  cases k with
  | true => exact ⟨.str "True", H, I.tok _, ⟨_, rfl⟩, q⟩
  | false => exact ⟨.str "False", H, I.tok _, ⟨_, rfl⟩, q⟩
end
theorem gd_int {c n : Nat} {i : Int} : gd c n (.int i) = true ↔ i.natAbs ≤ 10 ^ 31 + 1000 * c := by
  cases n <;> (rw [gd, decide_eq_true_eq])
theorem gd_str {c n : Nat} {z : Str} : gd c n (.str z) = true ↔ z.length ≤ 100 * 3 ^ c := by
  cases n <;> (rw [gd, decide_eq_true_eq])
theorem text_len {i : Int} {c : Nat} (hc : c ≤ 1000) (h : i.natAbs ≤ 10 ^ 31 + 1000 * c) : (Str.ofString (toString i)).length ≤ 33 := by
  have e := int_text_length_le10 (a := i) (k := 32) (by decide) (by
    have : (10 : Nat) ^ 32 = 10 * 10 ^ 31 := by decide
    have : (1000000 : Nat) ≤ 10 ^ 31 := by decide
    omega)
  rw [ofString_length]
  exact e
theorem log_small {i : Int} {c : Nat} (hc : c ≤ 1000) (h : i.natAbs ≤ 10 ^ 31 + 1000 * c) : i.natAbs.log2 < 1920 := by
  have h1 : i.natAbs < 2 ^ 200 := by
    have : (10 : Nat) ^ 31 + 1000 * 1000 < 2 ^ 200 := by decide
    omega
  by_cases h0 : i.natAbs = 0
  · rw [h0]
    decide
  · have := (Nat.log2_lt h0).mpr h1
    omega
end Tc
/-! data kept apart from a set of objects (the bag, lists under work) -/
namespace Tc
open PySem L2 Evl
open Classical in
noncomputable def cut (S : Addr → Prop) (H : Hp) : Hp := fun a => if S a then none else H a
theorem cut_in {S : Addr → Prop} {H : Hp} {a : Addr} (h : S a) : cut S H a = none := by
  unfold cut
  rw [if_pos h]
theorem cut_at {S : Addr → Prop} {H : Hp} {a : Addr} {o : HO} (h : H a = some o) (n : ¬ S a) : cut S H a = some o := by
  unfold cut
  rw [if_neg n]
  exact h
theorem cut_same (S : Addr → Prop) (H : Hp) : Same (cut S H) H := fun a o h => by
  by_cases n : S a
  · rw [cut_in n] at h
    cases h
  · unfold cut at h
    rw [if_neg n] at h
    exact h
theorem cut_out {S : Addr → Prop} {H : Hp} {a : Addr} {o : HO} (h : cut S H a = some o) : ¬ S a := fun n => by
  rw [cut_in n] at h
  cases h
theorem cut_hid (b : Addr) (H : Hp) : cut (fun a => a = b) H = hid b H := by
  funext a
  unfold cut hid
  by_cases h : a = b
  · rw [if_pos h, if_pos h]
  · rw [if_neg h, if_neg h]
/-- what is kept apart is there -/
structure Sok (S : Addr → Prop) (b : Addr) (H : Hp) : Prop where
  mem : S b
  old : ∀ a, S a → H a ≠ none
section
variable {S : Addr → Prop} {b : Addr} {K : PySem.W.Frag} {σ : L2.St} {H H' : Hp} {ta tb tc te : TE} {t : TT} {x y z v : V} {d : PyData}
theorem Sok.fr (h : Sok S b H) (f : Fr b H H') : Sok S b H' := ⟨h.mem, fun a m => by
  by_cases e : a = b
  · obtain ⟨x, y, hb, _⟩ := f.bag
    rw [e, hb]
    exact fun z => nomatch z
  · cases h1 : H a with
    | none => exact absurd h1 (h.old a m)
    | some o =>
      rw [f.at h1 e]
      exact fun z => nomatch z⟩
theorem Sok.new (h : Sok S b H) {p : Addr} (hp : H p = none) : ¬ S p := fun m => h.old p m hp
theorem cut_sm (h : S b) (f : Fr b H H') : Same (cut S H) (cut S H') := fun a o e => by
  have n := cut_out e
  exact cut_at (f.at (cut_same S H a o e) fun z => n (z ▸ h)) n
/-- the objects of S may change -/
theorem cut_upd {p : Addr} {o : HO} (h : S p) : cut S (upd H p o) = cut S H := by
  funext a
  unfold cut
  by_cases m : S a
  · rw [if_pos m, if_pos m]
  · rw [if_neg m, if_neg m, upd_ne (fun z : a = p => m (z ▸ h))]
theorem cdt_new {p : Addr} {vs : List V} {ds : List PyData} (hS : Sok S b H) (hB : Bag H b) (hp : H p = none) (h : DpAll K (cut S H) vs ds) : Dp K (cut S (upd H p (.tup vs))) (.ref p) (.tuple ds) :=
  .tup (st_of (cut_at upd_same (hS.new hp))) (dps_same (cut_sm hS.mem (Fr.new hB hp)) _ _ h)
theorem cdl_new {p : Addr} {vs : List V} {ds : List PyData} (hS : Sok S b H) (hB : Bag H b) (hp : H p = none) (h : DpAll K (cut S H) vs ds) : Dp K (cut S (upd H p (.lst vs))) (.ref p) (.list ds) :=
  .lst (sq_of (cut_at upd_same (hS.new hp))) (dps_same (cut_sm hS.mem (Fr.new hB hp)) _ _ h)
def CD (S : Addr → Prop) (b : Addr) (K : PySem.W.Frag) (te : TE) (σ : L2.St) (H : Hp) (d : PyData) : Prop := ∀ H1, Fr b H H1 → ∀ Q : VK, (∀ v H2, Fr b H1 H2 → Dp K (cut S H2) v d → Q v H2) → te σ H1 Q
def CDA (S : Addr → Prop) (b : Addr) (K : PySem.W.Frag) (ta : TA) (σ : L2.St) (H : Hp) (ds : List PyData) : Prop := ∀ H1, Fr b H H1 → ∀ Q : List V → Hp → Prop, (∀ vs H2, Fr b H1 H2 → DpAll K (cut S H2) vs ds → Q vs H2) → ta σ H1 Q
def CDL (S : Addr → Prop) (b : Addr) (K : PySem.W.Frag) (te : TE) (σ : L2.St) (H : Hp) (ds : List PyData) : Prop := ∀ H1, Fr b H H1 → ∀ Q : VK, (∀ p vs H2, Fr b H1 H2 → H1 p = none → p ≠ b → H2 p = some (.lst vs) → DpAll K (cut S H2) vs ds → Q (.ref p) H2) → te σ H1 Q
theorem cd_c (h : ∀ H, Dp K H v d) : CD S b K (tC v) σ H d := fun H1 e _ q => q v H1 (Fr.refl e.bag) (h _)
theorem cd_neg {i : Int} : CD S b K (tUn (rU fun i => .int (-i)) (tC (.int i))) σ H (.int (-i)) := fun H1 e _ q => ⟨i, rfl, q _ H1 (Fr.refl e.bag) (.int _)⟩
theorem cd_pow {i j : Int} (h : CPow i j) : CD S b K (tOp (rI CPow fun i j => .int (i ^ j.toNat)) (tC (.int i)) (tC (.int j))) σ H (.int (i ^ j.toNat)) := fun H1 e _ q => ⟨i, j, rfl, rfl, h, q _ H1 (Fr.refl e.bag) (.int _)⟩
theorem cda_nil : CDA S b K tNil σ H [] := fun H1 e _ q => q [] H1 (Fr.refl e.bag) .nil
theorem cda_cons {tr : TA} {ds : List PyData} (hS : S b) (h : CD S b K te σ H d) (r : CDA S b K tr σ H ds) : CDA S b K (tCons te tr) σ H (d :: ds) := fun H1 e _ q =>
  h H1 e _ fun v H2 e2 hv => r H2 (e.trans e2) _ fun vs H3 e3 hvs => q (v :: vs) H3 (e2.trans e3) (.cons (dp_same (cut_sm hS e3) _ _ hv) hvs)
theorem cd_tup {ta : TA} {ds : List PyData} (hS : Sok S b H) (h : CDA S b K ta σ H ds) (hl : ds.length ≤ 100000) : CD S b K (tTup ta) σ H (.tuple ds) := fun H1 e _ q =>
  h H1 e _ fun vs H2 e2 hv => ⟨sz_of (by rw [dps_len hv]; exact hl), fun p hp => q (.ref p) _ (e2.trans (Fr.new e2.bag hp)) (cdt_new ((hS.fr e).fr e2) e2.bag hp hv)⟩
theorem cd_lst {ta : TA} {ds : List PyData} (hS : Sok S b H) (h : CDA S b K ta σ H ds) (hl : ds.length ≤ 100000) : CD S b K (tLst ta) σ H (.list ds) := fun H1 e _ q =>
  h H1 e _ fun vs H2 e2 hv => ⟨sz_of (by rw [dps_len hv]; exact hl), fun p hp => q (.ref p) _ (e2.trans (Fr.new e2.bag hp)) (cdl_new ((hS.fr e).fr e2) e2.bag hp hv)⟩
theorem cdl_lst {ta : TA} {ds : List PyData} (hS : S b) (h : CDA S b K ta σ H ds) (hl : ds.length ≤ 100000) : CDL S b K (tLst ta) σ H ds := fun H1 e _ q =>
  h H1 e _ fun vs H2 e2 hv => ⟨sz_of (by rw [dps_len hv]; exact hl), fun p hp => q p vs _ (e2.trans (Fr.new e2.bag hp)) (fr_back' e2 hp) (e2.bag.ne hp) upd_same (dps_same (cut_sm hS (Fr.new e2.bag hp)) _ _ hv)⟩
theorem cdl_cat {i : Nat} {p : Addr} {vs : List V} {ds es : List PyData} (hS : S b) (hσ : σ[i]? = some (some (.ref p))) (hp : H p = some (.lst vs)) (hpb : p ≠ b) (hd : DpAll K (cut S H) vs ds) (h : CDL S b K tb σ H es) (hl : ds.length + es.length ≤ 100000) :
    CDL S b K (tOp rCat (tVar i) tb) σ H (ds ++ es) := fun H1 e _ q => ⟨.ref p, hσ, h H1 e _ fun r ws H2 e2 hr hrb hr2 hd2 => ⟨p, r, vs, ws, rfl, rfl, (e.trans e2).at hp hpb, hr2, sz_of (by rw [dps_len hd, dps_len hd2]; exact hl), fun s hs =>
  q s (vs ++ ws) _ (e2.trans (Fr.new e2.bag hs)) (fr_back' e2 hs) (e2.bag.ne hs) upd_same (dps_app (dps_same (cut_sm hS ((e.trans e2).trans (Fr.new e2.bag hs))) _ _ hd) (dps_same (cut_sm hS (Fr.new e2.bag hs)) _ _ hd2))⟩⟩
/-- the promise of a def that hands back data, drawing -/
def spNew (K : PySem.W.Frag) (g : PyData → Bool) : Sp := fun vs H Q _ => ∃ (b : Addr) (S : Addr → Prop), vs = [.ref b] ∧ Bag H b ∧ Sok S b H ∧ ∀ v d H', Fr b H H' → Dp K (cut S H') v d → g d = true → Q v H'
/-- one drawn item of a list of data -/
theorem cdraw_item {i j : Nat} {p : Addr} {vs : List V} {ds : List PyData} {Q : VK} {E : XK} (hS : S b) (hB : Bag H b) (hσ : σ[i]? = some (some (.ref p))) (hσ2 : σ[j]? = some (some (.ref b))) (hp : H p = some (.lst vs)) (hpb : p ≠ b) (hd : DpAll K (cut S H) vs ds) (h0 : 0 < ds.length) (hl : ds.length < 1000)
    (q : ∀ v d H', Fr b H H' → d ∈ ds → Dp K (cut S H') v d → Q v H') : tOp (rIxL K) (tVar i) (tCall spTake [] E (tCons (tVar j) (tCons (tCB (rLenS K) (tCons (tVar i) tNil)) tNil))) σ H Q := by
  refine ⟨.ref p, hσ, .ref b, hσ2, .ref p, hσ, p, vs, rfl, .inl (sq_of hp), b, _, rfl, hB, ?_, ?_, fun r H' fr h0' h1' => ?_⟩
  · have := dps_len hd
    omega
  · have := dps_len hd
    omega
  · obtain ⟨n, rfl⟩ : ∃ n : Nat, r = (n : Int) := ⟨r.toNat, by omega⟩
    have hlt : n < vs.length := by omega
    obtain ⟨d, hd1, hd2⟩ := dps_at hd (List.getElem?_eq_getElem hlt)
    exact ⟨p, vs, n, vs[n], rfl, rfl, sq_of (fr.at hp hpb), atI_nat (List.getElem?_eq_getElem hlt), q _ d H' fr (List.mem_of_getElem? hd1) (dp_same (cut_sm hS fr) _ _ hd2)⟩
end
end Tc
namespace Tc
open PySem L2 Evl
section
variable {S : Addr → Prop} {b : Addr} {K : PySem.W.Frag} {σ : L2.St} {H H' : Hp} {ta tb tc te : TE} {t : TT} {x y z v : V} {d : PyData}
theorem ev_isiT (ha : Ev ta σ H v) (h : Dp K H v d) : Ev (tCB (rIsiT K) (tCons ta (tCons (tTup (tCons (tC (.ty "tuple")) (tCons (tC (.ty "list")) tNil))) tNil))) σ H (.bl (isTup d || isLst d)) := fun H1 e Q q =>
  ha H1 e _ fun H2 e2 => ⟨sz_of (by simp), fun p hp => ⟨v, p, [.ty "tuple", .ty "list"], .type (tyN d), [.type "tuple", .type "list"], isTup d || isLst d, rfl, upd_same, .cons (.ty _) (.cons (.ty _) .nil), ty_dp (dp_same ((e.trans e2).trans (Ex.new hp)) _ _ h),
    kitAny_cons (kit_ty (kit_tuple (dp_nodict h))) (fun e1 => kitAny_cons (kit_ty (kit_list (dp_nodict h))) (fun e3 => by rw [e1, e3]; exact kitAny_nil) fun e3 => by rw [e1, e3]; rfl) (fun e1 => by rw [e1]; rfl), q _ (e2.trans (Ex.new hp))⟩⟩
theorem cd_ev (h : ∀ H, Ev te σ H v) (hd : ∀ H, Dp K H v d) : CD S b K te σ H d := fun H1 e _ q => h H1 H1 (Ex.refl H1) _ fun H2 x2 => q v H2 (Fr.ex e.bag x2) (hd _)
theorem cd_item {ds : List PyData} {j : Nat} (hS : S b) (h : CDL S b K ta σ H ds) (hb : ∀ H, Ev tb σ H (.int (j : Int))) (hj : ds[j]? = some d) : CD S b K (tOp (rIxL K) ta tb) σ H d := fun H1 e _ q =>
  h H1 e _ fun p vs H2 f2 hp hpb h2 hd => hb H2 H2 (Ex.refl H2) _ fun H3 x3 => by
    obtain ⟨v, hv, hv2⟩ := dps_at' hd hj
    exact ⟨p, vs, j, v, rfl, rfl, sq_of (x3 p _ h2), atI_nat hv, q v H3 (f2.trans (Fr.ex f2.bag x3)) (dp_same (cut_sm hS (Fr.ex f2.bag x3)) _ _ hv2)⟩
def rAddSt : R2 := fun x y H Q => ∃ i j, x = .str i ∧ y = .str j ∧ i.length + j.length ≤ sizeLine ∧ Q (.str (i ++ j)) H
theorem rv_addS {i j : Str} (h : i.length + j.length ≤ 10000000) : RV rAddSt (.str i) (.str j) H (.str (i ++ j)) := fun H1 _ _ q => ⟨i, j, rfl, rfl, Nat.le_trans h (by decide), q H1 (Ex.refl H1)⟩
theorem ev_slS {tl th : TO} {s : Str} {lo hi : Option Int} (h : Ev te σ H (.str s)) (h1 : EvO tl σ H lo) (h2 : EvO th σ H hi) (hs : s.length ≤ 10000000) : Ev (tSl rSlS te tl th) σ H (.str (cutS s lo hi)) := fun H1 e _ q =>
  h H1 e _ fun H2 e2 => h1 H2 (e.trans e2) _ fun H3 e3 => h2 H3 ((e.trans e2).trans e3) _ fun H4 e4 => ⟨s, rfl, Nat.le_trans hs (by decide), q H4 ((e2.trans e3).trans e4)⟩
theorem ev_upper {s : Str} (h : Ev te σ H (.str s)) (hs : s.length ≤ 5592405) : Ev (tM0 (fun x xs H Q => ∃ a, x = .str a ∧ xs = [] ∧ a.length ≤ 5592405 ∧ Q (.str (Txt.upper a)) H) te) σ H (.str (Txt.upper s)) := fun H1 e _ q =>
  h H1 e _ fun H2 e2 => ⟨⟨s, rfl⟩, s, rfl, rfl, hs, q H2 e2⟩
theorem ev_strI {i : Int} (h : Ev te σ H (.int i)) (hs : i.natAbs.log2 < 1920) : Ev (tCB (fun xs H Q => ∃ i, xs = [.int i] ∧ i.natAbs.log2 < 1920 ∧ Q (.str (toString i)) H) (tCons te tNil)) σ H (.str (toString i)) := ev_cb (ea_cons h ea_nil) fun H1 _ _ q => ⟨i, rfl, hs, q H1 (Ex.refl H1)⟩
theorem ev_strB {k : Bool} (h : Ev te σ H (.bl k)) : Ev (tCB rStrB (tCons te tNil)) σ H (.str (if k = true then "True" else "False")) := ev_cb (ea_cons h ea_nil) fun H1 _ _ q => ⟨k, rfl, q H1 (Ex.refl H1)⟩
theorem rv_addB {k : Bool} {i : Int} : RV rAddB (.bl k) (.int i) H (.int ((if k = true then (1 : Int) else 0) + i)) := fun H1 _ _ q => ⟨k, i, rfl, rfl, q H1 (Ex.refl H1)⟩
theorem rv_subB {k : Bool} {i : Int} : RV rSubB (.bl k) (.int i) H (.int ((if k = true then (1 : Int) else 0) - i)) := fun H1 _ _ q => ⟨k, i, rfl, rfl, q H1 (Ex.refl H1)⟩
theorem ru_negB {k : Bool} : RU rNegB (.bl k) H (.int (-(if k = true then (1 : Int) else 0))) := fun H1 _ _ q => ⟨k, rfl, q H1 (Ex.refl H1)⟩
/-- the promise of the def that spoils data -/
def spSp (K : PySem.W.Frag) (n : Nat) : Sp := fun vs H Q _ => ∃ (b : Addr) (v : V) (d : PyData) (S : Addr → Prop) (c : Nat), vs = [.ref b, v] ∧ Bag H b ∧ Sok S b H ∧ Dp K (cut S H) v d ∧ gd c n d = true ∧ c ≤ 8 ∧
  ∀ v' d' H', Fr b H H' → Dp K (cut S H') v' d' → gd (c + 1) (n + 3) d' = true → Q v' H'
end
theorem pow_bd {c : Nat} (h : c ≤ 9) : 100 * 3 ^ c ≤ 1968300 ∧ 100 ≤ 100 * 3 ^ c := by
  have h1 : 3 ^ c ≤ 3 ^ 9 := Nat.pow_le_pow_right (by decide) h
  have h2 : 1 ≤ 3 ^ c := Nat.pos_of_ne_zero (by
    have := Nat.pow_pos (n := c) (show 0 < 3 by decide)
    omega)
  have h3 : (3 : Nat) ^ 9 = 19683 := by decide
  omega
end Tc
namespace Tc
open PySem L2 Evl
section
variable {S : Addr → Prop} {b : Addr} {K : PySem.W.Frag} {σ : L2.St} {H H' : Hp} {ta tb tc te : TE} {t : TT} {x y z v : V} {d : PyData}
/-- one more object kept apart -/
def also (S : Addr → Prop) (l : Addr) : Addr → Prop := fun a => S a ∨ a = l
theorem also_same {l : Addr} : Same (cut (also S l) H) (cut S H) := fun a o h => cut_at (cut_same _ _ _ _ h) fun m => cut_out h (.inl m)
theorem also_new {l : Addr} (hS : S b) (f : Fr b H H') (hl : H l = none) : Same (cut S H) (cut (also S l) H') := fun a o h => by
  have n := cut_out h
  have h1 := cut_same S H a o h
  refine cut_at (f.at h1 fun z => n (z ▸ hS)) fun m => ?_
  rcases m with m | m
  · exact n m
  · rw [m, hl] at h1
    cases h1
theorem Sok.also {l : Addr} (h : Sok S b H) (hl : H l ≠ none) : Sok (also S l) b H := ⟨.inl h.mem, fun a m => by
  rcases m with m | m
  · exact h.old a m
  · rw [m]
    exact hl⟩
def SQ (K : PySem.W.Frag) (H : Hp) (a : Addr) (xs : List V) : Prop := SqL K H a xs ∨ SqT K H a xs
theorem SQ.same {a : Addr} {xs : List V} (h : SQ K H a xs) (e : Same H H') : SQ K H' a xs := by
  rcases h with h | h
  · exact .inl (ex_l e h)
  · exact .inr (ex_t e h)
theorem ev_lenQ {p : Addr} {xs : List V} (ha : Ev ta σ H (.ref p)) (h : SQ K H p xs) : Ev (tCB (rLenS K) (tCons ta tNil)) σ H (.int (xs.length : Int)) := fun H1 e Q q =>
  ha H1 e _ fun H2 e2 => ⟨p, xs, rfl, h.same (e.trans e2), q H2 e2⟩
theorem cut_len1 (xs : List V) (k : Nat) : (cutV xs none (some (k : Int))).length ≤ k := by
  unfold cutV
  rw [HT.sIx_nat, HT.sIx_none, List.length_take]
  omega
theorem cut_len2 (xs : List V) (k : Nat) : (cutV xs (some (k : Int)) none).length ≤ xs.length - k := by
  unfold cutV
  rw [HT.sIx_nat, HT.sIx_none, List.length_take, List.length_drop]
  omega
theorem dps_cut {xs : List V} {ds : List PyData} (lo hi : Option Int) (h : DpAll K H xs ds) : ∃ es, DpAll K H (cutV xs lo hi) es ∧ ∀ e ∈ es, e ∈ ds := by
  unfold cutV
  exact ⟨_, dps_take _ (dps_drop _ h), fun e m => List.mem_of_mem_drop (List.mem_of_mem_take m)⟩
theorem mem_set {α : Type} {l : List α} {n : Nat} {a e : α} (h : e ∈ l.set n a) : e ∈ l ∨ e = a := by
  rcases List.mem_or_eq_of_mem_set h with h | h
  · exact .inl h
  · exact .inr h
end
end Tc
/-! data beside texts: ==, not in -/
namespace Tc
open PySem L2 Evl
def eqS (s : Str) : PyData → Bool
  | .str z => decide (z = s) | _ => false
def rEqStr (K : PySem.W.Frag) : R2 := fun x y H Q => ∃ (d : PyData) (s : Str), Dp K H x d ∧ y = .str s ∧ Q (.bl (eqS s d)) H
section
variable {X : Cx}
theorem op_eqStr (hu : X.A.units + 64 < cLine) : OpR X (compareOp .Eq) (rEqStr X.K) := by
  intro pins s σ H x y v u Q I rx ry h
  obtain ⟨d, z, hd, rfl, q⟩ := h
  cases hd with
  | non => exact op_eq pins s σ H _ _ v u Q I rx ry ⟨rfl, q⟩
  | bl b => exact op_eq pins s σ H _ _ v u Q I rx ry ⟨rfl, q⟩
  | int i => exact op_eq pins s σ H _ _ v u Q I rx ry ⟨rfl, q⟩
  | str w =>
    refine op_eq pins s σ H _ _ v u Q I rx ry ⟨rfl, ?_⟩
    rw [show decide (V.str w = V.str z) = decide (w = z) from decide_eq_decide.mpr ⟨fun e => V.str.inj e, fun e => congrArg V.str e⟩]
    exact q
  | @lst a xs ds h r =>
    cases (show v = Value.ref a from rx)
    obtain ⟨t, rfl⟩ := (show ∃ t, u = Value.str z t from ry)
    obtain ⟨its, _, pl, _⟩ := I.list h
    exact SeqAt.RcAt.list_str z t pl.isList (by omega) _ _ _ _ ⟨.bl false, H, I, rfl, q⟩
  | @tup a xs ds h r =>
    cases (show v = Value.ref a from rx)
    obtain ⟨t, rfl⟩ := (show ∃ t, u = Value.str z t from ry)
    obtain ⟨its, _, pl, _⟩ := I.tuple h
    exact SeqAt.RcAt.tuple_str z t pl (by omega) _ _ _ _ ⟨.bl false, H, I, rfl, q⟩
end
def inS (ss : List Str) : PyData → Bool
  | .str z => decide (z ∈ ss) | _ => false
def rNotInStr (K : PySem.W.Frag) : R2 := fun x y H Q => ∃ (d : PyData) (p : Addr) (ss : List Str), Dp K H x d ∧ y = .ref p ∧ SqT K H p (ss.map V.str) ∧ Q (.bl (!inS ss d)) H
theorem inV_str (z : Str) : ∀ ss : List Str, inV (.str z) (ss.map V.str) = decide (z ∈ ss)
  | [] => rfl
  | s :: ss => by
    have ih := inV_str z ss
    unfold inV at ih ⊢
    rw [List.map_cons, List.any_cons, ih]
    show ((s == z) || decide (z ∈ ss)) = decide (z ∈ s :: ss)
    by_cases h : s = z
    · subst h
      simp
    · have h2 : ¬ z = s := fun e => h e.symm
      simp [h, h2]
theorem inV_other {x : V} (hx : ∀ s, eqV (.str s) x = false) : ∀ ss : List Str, inV x (ss.map V.str) = false
  | [] => rfl
  | s :: ss => by
    have ih := inV_other hx ss
    unfold inV at ih ⊢
    rw [List.map_cons, List.any_cons, ih, hx]
    rfl
theorem flat_strs' : ∀ ss : List Str, (ss.map V.str).all flatV = true
  | [] => rfl
  | s :: ss => by rw [List.map_cons, List.all_cons, flat_strs' ss]; rfl
theorem strs_mem : ∀ {us : List Value} {xs : List Str}, PyProof.Rows.StrsAre us xs → ∀ v ∈ us, ∃ (z : Str) (t : Tok), v = .str z t
  | _, _, .nil, v, m => by simp at m
  | _, _, .cons z t r, v, m => by
    rcases List.mem_cons.mp m with e | m
    · exact ⟨z, t, e⟩
    · exact strs_mem r v m
section
variable {X : Cx}
theorem op_notInStr (hu : X.A.units + 64 < cLine) : OpR X (compareOp .NotIn) (rNotInStr X.K) := by
  intro pins s σ H x y v u Q I rx ry h
  obtain ⟨d, p, ss, hd, rfl, hp, q⟩ := h
  have flat : ∀ x' : V, flatV x' = true → RelV x' v → Q (.bl (!inV x' (ss.map V.str))) H → wpAny (model X.prog X.w) X.A (compareOp .NotIn v u) (EP X pins σ Q) X.xe s := fun x' fx rx' q' =>
    op_notIn_seq pins s σ H x' _ v u Q I rx' ry ⟨p, _, rfl, .inr hp, fx, flat_strs' ss, q'⟩
  have refs : ∀ a : Addr, v = Value.ref a → (∀ (w : Str) (t : Tok), SeqAt.EqAt X.A.in1 s (.str w t) (.ref a) false) → Q (.bl true) H → wpAny (model X.prog X.w) X.A (compareOp .NotIn v u) (EP X pins σ Q) X.xe s := fun a ev he q' => by
    cases (show u = Value.ref p from ry)
    subst ev
    obtain ⟨its, rv, pl, _⟩ := I.tuple hp
    refine SeqAt.notIn_tupleAt (fun _ => false) pl (fun y hy => ?_) ⟨.bl _, H, I, rfl, ?_⟩
    · have sv := strsAre_of rv
      obtain ⟨i, hi, e⟩ := List.mem_iff_getElem.mp (show y ∈ its by simpa using hy)
      obtain ⟨z, t, e2⟩ := strs_mem sv y (e ▸ List.getElem_mem hi)
      rw [e2]
      exact he z t
    · rw [show its.toArray.any (fun _ => false) = false by simp]
      exact q'
  cases hd with
  | non => exact flat .non rfl rx (by rw [inV_other (fun s => rfl)]; exact q)
  | bl b => exact flat (.bl b) rfl rx (by rw [inV_other (fun s => rfl)]; exact q)
  | int i => exact flat (.int i) rfl rx (by rw [inV_other (fun s => rfl)]; exact q)
  | str w => exact flat (.str w) rfl rx (by rw [inV_str]; exact q)
  | @lst a xs ds h r =>
    obtain ⟨its, _, pl, _⟩ := I.list h
    exact refs a rx (fun w t => SeqAt.EqAt.str_list w t pl.isList (by simp; omega)) q
  | @tup a xs ds h r =>
    obtain ⟨its, _, pl, _⟩ := I.tuple h
    exact refs a rx (fun w t => SeqAt.EqAt.str_tuple w t pl (by simp; omega)) q
end
section
variable {K : PySem.W.Frag} {σ : L2.St} {H : Hp} {ta tb tc te : TE} {x y z v : V} {d : PyData}
theorem ev_eqStr {s : Str} (ha : Ev ta σ H v) (h : Dp K H v d) (hb : Ev tb σ H (.str s)) : Ev (tOp (rEqStr K) ta tb) σ H (.bl (eqS s d)) := ev_op ha hb fun H1 e _ q => ⟨d, s, dp_same e _ _ h, rfl, q H1 (Ex.refl H1)⟩
theorem ev_notInStr {ss : List Str} (ha : Ev ta σ H v) (h : Dp K H v d) (hb : EvU tb σ H (ss.map V.str)) : Ev (tOp (rNotInStr K) ta tb) σ H (.bl (!inS ss d)) := ev_opU ha hb fun p H1 hp e1 H2 e2 _ q => ⟨d, p, ss, dp_same (e1.trans e2) _ _ h, rfl, st_of (e2 p _ hp), q H2 (Ex.refl H2)⟩
theorem ev_all {bs : List Bool} (ha : EvL ta σ H (bs.map V.bl)) : Ev (tCB (rAll K) (tCons ta tNil)) σ H (.bl (bs.all id)) := fun H1 e Q q =>
  ha H1 e _ fun p H2 hp e2 h2 => ⟨p, bs, rfl, sq_of h2, q H2 e2⟩
theorem ev_lst (ha : Ev ta σ H v) (h : Dp K H v d) : Ev (tCB (rIsi K) (tCons ta (tCons (tC (.ty "list")) tNil))) σ H (.bl (isLst d)) := ev_isi ha h (kit_list (dp_nodict h))
theorem ev_ix2 {p : Addr} {xs : List V} {x0 x1 : V} (ha : Ev ta σ H (.ref p)) (h : SqT K H p (x0 :: x1 :: v :: xs)) : Ev (tOp (rIxT K) ta (tC (.int 2))) σ H v := ev_ixT (j := 2) ha h rfl
theorem three_of {α : Type} {l : List α} (h : l.length = 3) : ∃ x y z, l = [x, y, z] := match l, h with | [x, y, z], _ => ⟨x, y, z, rfl⟩
end
end Tc
namespace Tc
open PySem L2 Evl
def rEqE (K : PySem.W.Frag) : R2 := fun x y H Q => ∃ (a b : Addr) (xs : List V), x = .ref a ∧ y = .ref b ∧ SqL K H a xs ∧ SqL K H b [] ∧ Q (.bl xs.isEmpty) H
theorem op_eqE {X : Cx} (hu : X.A.units + 64 < cLine) : OpR X (compareOp .Eq) (rEqE X.K) := by
  intro pins s σ H x y v u Q I rx ry h
  obtain ⟨a, b, xs, rfl, rfl, ha, hb, q⟩ := h
  cases xs with
  | nil => exact op_eqD hu pins s σ H _ _ v u Q I rx ry ⟨.list [], .list [], .lst ha .nil, .lst hb .nil, rfl, rfl, q⟩
  | cons z zs =>
    cases (show v = Value.ref a from rx)
    cases (show u = Value.ref b from ry)
    obtain ⟨i1, r1, l1, _⟩ := I.list ha
    obtain ⟨i2, r2, l2, _⟩ := I.list hb
    have h1 : (i1.toArray.size != i2.toArray.size) = true := by
      have e1 := r1.length
      have e2 := r2.length
      simp only [List.size_toArray]
      rw [← e1, ← e2]
      rfl
    exact SeqAt.RcAt.lists_lengths l1.isList l2.isList h1 (by omega) _ _ _ _ ⟨.bl false, H, I, rfl, q⟩
section
variable {K : PySem.W.Frag} {σ : L2.St} {H : Hp} {ta tb tc te : TE} {t : TT} {x y z v : V} {d : PyData}
theorem ev_dict2 {i j n : Int} {x y z : V} (hb : Ev tb σ H (.int n)) (hv : valV (mergeK [] [((.inl i : Key), x), (.inl j, y)]) (.inl n) = some z) : Ev (tDGet (tDisp [(tC (.int i), tC x), (tC (.int j), tC y)]) tb) σ H z := fun H1 e Q q p hp =>
  ⟨upd_same, [((.inl i : Key), x), (.inl j, y)], rfl, by simp, hb _ (e.trans (Ex.mut (Ex.new hp) hp)) _ fun H3 e3 => ⟨p, z, rfl, hv ▸ DGet.k (k := .inl n) (e3 p _ upd_same), q H3 ((Ex.mut (Ex.new hp) hp).trans e3)⟩⟩
theorem ev_eqE {xs : List V} (ha : EvL ta σ H xs) : Ev (tOp (rEqE K) ta (tLst tNil)) σ H (.bl xs.isEmpty) :=
  ev_opLL ha (el_lst ea_nil (by simp)) fun p r H1 hp hr x1 H2 x2 Q q => ⟨p, r, _, rfl, rfl, sq_of (x2 p _ hp), sq_of (x2 r _ hr), q H2 (Ex.refl H2)⟩
theorem given_emptyB {n : Nat} {ds : List PyData} (f : PyData → Bool) (u : Nat → V) (hn : n = ds.length) : (given n (fun i => !f (ds.getD i .none)) u).isEmpty = ds.all f := by
  subst hn
  rw [Bool.eq_iff_iff, given_empty, List.all_eq_true]
  constructor
  · intro h d m
    obtain ⟨i, hi, rfl⟩ := List.mem_iff_getElem.mp m
    have := h i hi
    rw [List.getD_eq_getElem?_getD, List.getElem?_eq_getElem hi] at this
    cases e : f ds[i] with
    | true => rfl
    | false =>
      simp only [Option.getD_some] at this
      rw [e] at this
      cases this
  · intro h i hi
    rw [List.getD_eq_getElem?_getD, List.getElem?_eq_getElem hi]
    simp only [Option.getD_some]
    rw [h _ (List.getElem_mem hi)]
    rfl
end
end Tc
namespace Tc
open PySem L2 Evl
/-- a list at D that collects data, one a turn, beside a bag at b, apart from S -/
structure ColE (S : Addr → Prop) (b : Addr) (K : PySem.W.Frag) (g : PyData → Bool) (H : Hp) (D : Addr) (i : Nat) (H' : Hp) : Prop where
  fr : Fr b H H'
  sok : Sok S b H
  new : H D = none
  ne : D ≠ b
  ex : ∃ (vs : List V) (ds : List PyData), H' D = some (.lst vs) ∧ DpAll K (cut (also S D) H') vs ds ∧ vs.length = i ∧ ∀ d ∈ ds, g d = true
section
variable {S : Addr → Prop} {b D : Addr} {K : PySem.W.Frag} {g : PyData → Bool} {H H' H4 : Hp} {i : Nat} {y : V} {d : PyData}
theorem ColE.start (hS : Sok S b H) (hB : Bag H b) (hD : H D = none) : ColE S b K g H D 0 (upd H D (.lst [])) := ⟨Fr.new hB hD, hS, hD, hB.ne hD, [], [], upd_same, .nil, rfl, fun d m => by simp at m⟩
theorem ColE.skip (c : ColE S b K g H D i H') (f : Fr b H' H4) : ColE S b K g H D i H4 := by
  obtain ⟨vs, ds, h1, h2, h3, h4⟩ := c.ex
  exact ⟨c.fr.trans f, c.sok, c.new, c.ne, vs, ds, f.at h1 c.ne, dps_same (cut_sm (.inl c.sok.mem) f) _ _ h2, h3, h4⟩
theorem ColE.push (c : ColE S b K g H D i H') (f : Fr b H' H4) (hy : Dp K (cut (also S D) H4) y d) (hg : g d = true) (hi : i < 10000) : ∃ acc, H4 D = some (.lst acc) ∧ acc.length < sizeLine ∧ ColE S b K g H D (i + 1) (upd H4 D (.lst (acc ++ [y]))) := by
  obtain ⟨vs, ds, h1, h2, h3, h4⟩ := c.ex
  refine ⟨vs, f.at h1 c.ne, sz_lt (by omega), Fr.mut (c.fr.trans f) c.new c.ne, c.sok, c.new, c.ne, vs ++ [y], ds ++ [d], upd_same, ?_, by simp; omega, fun e m => ?_⟩
  · rw [cut_upd (.inr rfl)]
    exact dps_app (dps_same (cut_sm (.inl c.sok.mem) f) _ _ h2) (.cons hy .nil)
  · rcases List.mem_append.mp m with m | m
    · exact h4 e m
    · rw [List.mem_singleton.mp m]
      exact hg
theorem ColE.at (c : ColE S b K g H D i H') : H' D ≠ none := by
  obtain ⟨vs, ds, h1, _⟩ := c.ex
  rw [h1]
  exact fun z => nomatch z
theorem ColE.from {H1 : Hp} (hS : Sok S b H) (f : Fr b H H1) (c : ColE S b K g H1 D i H') : ColE S b K g H D i H' := by
  obtain ⟨vs, ds, h1, h2, h3, h4⟩ := c.ex
  exact ⟨f.trans c.fr, hS, fr_back' f c.new, c.ne, vs, ds, h1, h2, h3, h4⟩
theorem ColE.sokD (c : ColE S b K g H D i H') : Sok (also S D) b H' := (c.sok.fr c.fr).also c.at
/-- a new tuple of leaves, apart from S and D -/
theorem dp_leaves {p : Addr} {vs : List V} {ds : List PyData} (hS : Sok S b H) (hp : H p = none) (h : ∀ H2, DpAll K H2 vs ds) : Dp K (cut S (upd H p (.tup vs))) (.ref p) (.tuple ds) :=
  .tup (st_of (cut_at upd_same (hS.new hp))) (h _)
/-- keys of a table, one at least -/
def spKeysP : Sp := fun vs H Q _ => ∃ b : Addr, vs = [.ref b] ∧ Bag H b ∧ ∀ l (ks : List Int) H', Fr b H H' → H l = none → l ≠ b → H' l = some (.lst (ks.map V.int)) → (∀ k ∈ ks, 0 ≤ k ∧ k < 1000) → ks.length ≤ 1000 → 0 < ks.length → Q (.ref l) H'
/-- a list of keys at l -/
structure KeysAt (b : Addr) (H : Hp) (l : Addr) (ks : List Int) : Prop where
  ne : l ≠ b
  h : H l = some (.lst (ks.map V.int))
  bd : ∀ k ∈ ks, 0 ≤ k ∧ k < 1000
  few : ks.length ≤ 1000
  some : 0 < ks.length
theorem KeysAt.fr {l : Addr} {ks : List Int} (k : KeysAt b H l ks) (f : Fr b H H') : KeysAt b H' l ks := ⟨k.ne, f.at k.h k.ne, k.bd, k.few, k.some⟩
/-- one of the keys -/
def spOf : Sp := fun vs H Q _ => ∃ (b l : Addr) (ks : List Int), vs = [.ref b, .ref l] ∧ Bag H b ∧ KeysAt b H l ks ∧ ∀ k H', k ∈ ks → Fr b H H' → Q (.int k) H'
end
end Tc
/-! a set comprehension with two for's, its members ints -/
namespace Tc
open PySem PySem.Spec PyProof.Rows L2
/-- {elt for t0 in i0 if .. for t1 in i1 if ..} -/
abbrev Sc2 (elt t0 i0 t1 i1 : Expr) (c0 c1 : List Expr) (sc : Scope) (ps : Pos) : Expr := .SetComp elt [⟨t0, i0, c0, 0⟩, ⟨t1, i1, c1, 0⟩] sc ps
/-- the tests of a clause, one behind the other -/
abbrev allOf (cs : List Expr) (env : Env) : Sem Bool := forIn cs true fun c r => if r = true then do let ok ← isTrue c env (eval c env); pure (ForInStep.yield ok) else pure (ForInStep.yield r)
section
variable {prog : Program} {w : World} {A : Around} {R : Result → Shared → Prop} {s : Shared} {elt t0 i0 t1 i1 : Expr} {c0 c1 : List Expr} {sc : Scope} {ps : Pos} {it acc : Value} {env : Env}
/-- what is raised goes the way that the comprehension's frame notes -/
abbrev Nt (prog : Program) (w : World) (A : Around) (env : Env) (R : Result → Shared → Prop) : Value → Shared → Prop := notedBy (model prog w) A env fun e s' => R (.error e) s'
theorem turnS_out : compTurn (Sc2 elt t0 i0 t1 i1 c0 c1 sc ps) 0 it acc env = (standAt i0.pos >>= fun _ => pyNext it >>= fun r => match r with
      | none => pure (.done .next)
      | some v => (letOwnedTupleGo t0 it v >>= fun _ => assign t0 env v >>= fun _ => allOf c0 env >>= fun ok => if ok then
          (eval i1 env >>= fun x => standAt i1.pos >>= fun _ => foldedSetIterable i1 env x >>= fun x => holding [x] (pyIter x) >>= fun j => runOwn (.compStart (Sc2 elt t0 i0 t1 i1 c0 c1 sc ps) 1 j acc env) env >>= fun _ => again (.compLoop (Sc2 elt t0 i0 t1 i1 c0 c1 sc ps) 0 it acc env))
          else again (.compLoop (Sc2 elt t0 i0 t1 i1 c0 c1 sc ps) 0 it acc env))) := by rfl
theorem turnS_in : compTurn (Sc2 elt t0 i0 t1 i1 c0 c1 sc ps) 1 it acc env = (standAt i1.pos >>= fun _ => pyNext it >>= fun r => match r with
      | none => pure (.done .next)
      | some v => (letOwnedTupleGo t1 it v >>= fun _ => assign t1 env v >>= fun _ => allOf c1 env >>= fun ok => if ok then
          ((eval elt env >>= fun v => standAt elt.pos >>= fun _ => call (.builtin "set.add") [acc, v] >>= fun _ => pure ()) >>= fun _ => again (.compLoop (Sc2 elt t0 i0 t1 i1 c0 c1 sc ps) 1 it acc env))
          else again (.compLoop (Sc2 elt t0 i0 t1 i1 c0 c1 sc ps) 1 it acc env))) := by rfl
/-- one turn of a clause: what comes next is taken, stored and tested; Y: what is wanted where the tests hold, N: where they don't, Z: at the end -/
def TurnOf (prog : Program) (w : World) (A : Around) (env : Env) (E : Value → Shared → Prop) (tg : Expr) (cs : List Expr) (it : Value) (Z : Shared → Prop) (Y N : Shared → Prop) (s : Shared) : Prop :=
  wpAny (model prog w) A (pyNext it) (fun r s₁ => match r with
    | none => Z s₁
    | some v => wpAny (model prog w) A (letOwnedTupleGo tg it v) (fun _ s₂ => wpAny (model prog w) A (assign tg env v) (fun _ s₃ => wpAny (model prog w) A (allOf cs env) (fun ok s₄ => if ok = true then Y s₄ else N s₄) E s₃) E s₂) E s₁) E s
theorem loopS_in (I : Nat → Shared → Prop) (turn : ∀ n s, I n s → TurnOf prog w A env (Nt prog w A env R) t1 c1 it (R (.ok .next))
      (fun s₄ => wpAny (model prog w) A (eval elt env) (fun x s₅ => wpAny (model prog w) A (call (.builtin "set.add") [acc, x]) (fun _ s₆ => ∃ m, m < n ∧ I m s₆) (Nt prog w A env R) s₅) (Nt prog w A env R) s₄) (fun s₄ => ∃ m, m < n ∧ I m s₄) s)
    (n : Nat) (h : I n s) : codeAny (model prog w) A (.compLoop (Sc2 elt t0 i0 t1 i1 c0 c1 sc ps) 1 it acc env) R s := by
  refine codeAny_loop rfl I (fun n s hI => (show wpAny _ A ((compTurn (Sc2 elt t0 i0 t1 i1 c0 c1 sc ps) 1 it acc env).onRaise (fun x => do noteFrame x env; theTreesLotGoes x)) _ _ s from wpAny_noted ?_)) n h
  rw [turnS_in]
  refine wpAny_bind (wpAny_standAt (wpAny_bind (wpAny_mono (turn n s hI) (fun r s₁ h₁ => ?_) fun _ _ z => z)))
  match r, h₁ with
  | none, h₁ => exact wpAny_pure h₁
  | some v, h₁ =>
    refine wpAny_bind (wpAny_mono h₁ (fun _ s₂ h₂ => wpAny_bind (wpAny_mono h₂ (fun _ s₃ h₃ => wpAny_bind (wpAny_mono h₃ (fun ok s₄ h₄ => ?_) fun _ _ z => z)) fun _ _ z => z)) fun _ _ z => z)
    match ok, h₄ with
    | false, h₄ => exact wpAny_pure ⟨rfl, h₄⟩
    | true, h₄ => exact wpAny_bind (wpAny_bind (wpAny_mono h₄ (fun x s₅ h₅ => wpAny_bind (wpAny_standAt (wpAny_bind (wpAny_mono h₅ (fun _ s₆ h₆ => wpAny_pure (wpAny_pure ⟨rfl, h₆⟩)) fun _ _ z => z)))) fun _ _ z => z))
theorem loopS_out (hs : ∀ x, foldedSetIterable i1 env x = pure x) (I : Nat → Shared → Prop) (turn : ∀ n s, I n s → TurnOf prog w A env (Nt prog w A env R) t0 c0 it (R (.ok .next))
      (fun s₄ => wpAny (model prog w) A (eval i1 env) (fun x s₅ => wpAny (model prog w) A (pyIter x) (fun j s₆ => codeAny (model prog w) A (.compStart (Sc2 elt t0 i0 t1 i1 c0 c1 sc ps) 1 j acc env) (fun r s' => match r with
        | .ok _ => ∃ m, m < n ∧ I m s' | .error _ => False) s₆) (Nt prog w A env R) s₅) (Nt prog w A env R) s₄) (fun s₄ => ∃ m, m < n ∧ I m s₄) s)
    (n : Nat) (h : I n s) : codeAny (model prog w) A (.compLoop (Sc2 elt t0 i0 t1 i1 c0 c1 sc ps) 0 it acc env) R s := by
  refine codeAny_loop rfl I (fun n s hI => (show wpAny _ A ((compTurn (Sc2 elt t0 i0 t1 i1 c0 c1 sc ps) 0 it acc env).onRaise (fun x => do noteFrame x env; theTreesLotGoes x)) _ _ s from wpAny_noted ?_)) n h
  rw [turnS_out]
  refine wpAny_bind (wpAny_standAt (wpAny_bind (wpAny_mono (turn n s hI) (fun r s₁ h₁ => ?_) fun _ _ z => z)))
  match r, h₁ with
  | none, h₁ => exact wpAny_pure h₁
  | some v, h₁ =>
    refine wpAny_bind (wpAny_mono h₁ (fun _ s₂ h₂ => wpAny_bind (wpAny_mono h₂ (fun _ s₃ h₃ => wpAny_bind (wpAny_mono h₃ (fun ok s₄ h₄ => ?_) fun _ _ z => z)) fun _ _ z => z)) fun _ _ z => z)
    match ok, h₄ with
    | false, h₄ => exact wpAny_pure ⟨rfl, h₄⟩
    | true, h₄ =>
      refine wpAny_bind (wpAny_mono h₄ (fun x s₅ h₅ => wpAny_bind (wpAny_standAt (wpAny_bind (wpAny_of_eq (hs x) (wpAny_bind (wpAny_holding (wpAny_mono h₅ (fun j s₆ h₆ => wpAny_bind (wpAny_runOwn ?_)) fun _ _ z => z))))))) fun _ _ z => z)
      rw [Around.mark_none]
      refine codeAny_mono h₆ fun r s' hr => ?_
      match r, hr with
      | .ok f, hr => first | exact wpAny_pure ⟨rfl, hr⟩ | exact wpAny_bind (wpAny_pure (wpAny_pure ⟨rfl, hr⟩))
      | .error e, hr => exact hr.elim
/-- the start of either clause's loop -/
theorem startS {k : Nat} (hk : k = 0 ∨ k = 1) (h0 : codeAny (model prog w) A (.compLoop (Sc2 elt t0 i0 t1 i1 c0 c1 sc ps) k it acc env) R s)
    (h : wpAny (model prog w) A (pyIter it) (fun j s' => codeAny (model prog w) A (.compLoop (Sc2 elt t0 i0 t1 i1 c0 c1 sc ps) k j acc env) R s') (Nt prog w A env R) s) :
    codeAny (model prog w) A (.compStart (Sc2 elt t0 i0 t1 i1 c0 c1 sc ps) k it acc env) R s := by
  rcases hk with rfl | rfl
  · refine codeAny_of_tree (show wpAny _ _ ((compStart (Sc2 elt t0 i0 t1 i1 c0 c1 sc ps) 0 it acc env).onRaise (fun x => do noteFrame x env; standAt theWindowsPlace)) _ _ s from wpAny_notedAt ?_)
    unfold compStart
    refine (show wpAny _ _ (ask >>= _) _ _ s from wpAny_bind (wpAny_askSetting (wpAny_ite ?_)))
    split
    · first | exact wpAny_bind (wpAny_pure (wpAny_pure ⟨rfl, h0⟩)) | exact wpAny_pure ⟨rfl, h0⟩
    · first
        | exact wpAny_bind (wpAny_rule (wpAny_bind (wpAny_standAt (wpAny_bind (wpAny_mono h (fun j s' z => wpAny_pure ⟨rfl, z⟩) fun _ _ z => z)))))
        | exact wpAny_bind (wpAny_rule (show wpAny _ _ (standAt i0.pos >>= _) _ _ s from wpAny_bind (wpAny_standAt (wpAny_bind (wpAny_mono h (fun j s' z => wpAny_pure ⟨rfl, z⟩) fun _ _ z => z)))))
  · refine codeAny_of_tree (show wpAny _ _ ((compStart (Sc2 elt t0 i0 t1 i1 c0 c1 sc ps) 1 it acc env).onRaise (fun x => do noteFrame x env; standAt theWindowsPlace)) _ _ s from wpAny_notedAt ?_)
    unfold compStart
    refine (show wpAny _ _ (ask >>= _) _ _ s from wpAny_bind (wpAny_askSetting (wpAny_ite ?_)))
    split
    · first | exact wpAny_bind (wpAny_pure (wpAny_pure ⟨rfl, h0⟩)) | exact wpAny_pure ⟨rfl, h0⟩
    · first
        | exact wpAny_bind (wpAny_rule (wpAny_bind (wpAny_standAt (wpAny_bind (wpAny_mono h (fun j s' z => wpAny_pure ⟨rfl, z⟩) fun _ _ z => z)))))
        | exact wpAny_bind (wpAny_rule (show wpAny _ _ (standAt i1.pos >>= _) _ _ s from wpAny_bind (wpAny_standAt (wpAny_bind (wpAny_mono h (fun j s' z => wpAny_pure ⟨rfl, z⟩) fun _ _ z => z)))))
end
section
variable {X : Cx}
/-- the empty set at D -/
abbrev set0 (w : World) (D : Addr) : HO := SetO w D (fun _ => false) 0
/-- k more in the set at D -/
abbrev setMore (w : World) (D : Addr) (S : Int → Bool) (n : Nat) (k : Int) : HO := SetO w D (fun j => S j || decide (j = k)) (if S k = true then n else n + 1)
/-- behind the first clause's store and tests stands the second clause's own loop; vs: the names of both, vs1: of the second -/
def tSc2 (w : World) (wi : TI) (g : TG) (tt : TT) (wi1 : TI) (g1 : TG) (tt1 : TT) (te : TE) (vs vs1 : List Nat) : TE := fun σ H Q => wi σ H fun J H1 => ∀ D, H1 D = none → ∃ W : Nat → Nat → Hp → Prop, (∃ m, W 0 m (upd H1 D (set0 w D))) ∧ ∀ i m H, W i m H →
  (J.stop i H ∧ Q (.ref D) H) ∨ (J.go i H ∧ ∃ Nx : Hp → Prop, (∀ H', Nx H' → ∃ m', m' < m ∧ W (i + 1) m' H') ∧ ∀ x H', J.yld i H x H' → g x (wipe σ vs) H' fun σ2 H2 => wipe σ2 vs = wipe σ vs ∧ tt σ2 H2 fun b H3 => if b = true then
    wi1 σ2 H3 fun J1 H4 => ∃ W1 : Nat → Nat → Hp → Prop, (∃ m, W1 0 m H4) ∧ ∀ j k H, W1 j k H → (J1.stop j H ∧ Nx H) ∨ (J1.go j H ∧ ∃ Nx1 : Hp → Prop, (∀ H', Nx1 H' → ∃ k', k' < k ∧ W1 (j + 1) k' H') ∧
      ∀ x H', J1.yld j H x H' → g1 x (wipe σ2 vs1) H' fun σ3 H5 => wipe σ3 vs1 = wipe σ2 vs1 ∧ tt1 σ3 H5 fun b H6 => if b = true then te σ3 H6 fun y H7 => ∃ (c : Int) (S : Int → Bool) (n : Nat), y = .int c ∧ H7 D = some (SetO w D S n) ∧ n + 1 < scanBound ∧ Nx1 (upd H7 D (setMore w D S n c)) else Nx1 H6)
    else Nx H3)
theorem add_int {pins : List (Addr × Obj)} {σ : L2.St} {H : Hp} {s : Shared} {E : Value → Shared → Prop} {D : Addr} {S : Int → Bool} {n : Nat} {c : Int} {v : Value} {Q : Value → Shared → Prop} (I : Inv X pins σ H s) (hD : H D = some (SetO X.w D S n)) (room : n + 1 < scanBound) (rv : RelV (.int c) v)
    (h : ∀ s', Inv X pins σ (upd H D (setMore X.w D S n c)) s' → Q .none s') : wpAny (model X.prog X.w) X.A (call (.builtin "set.add") [.ref D, v]) Q E s := by
  obtain ⟨t, rfl⟩ := rv
  refine setR_add (setO_get I hD) room fun h' sb new => h _ (I.write (e := D) (t' := s.toks + 1) (by rw [hD]; trivial) (.inl rfl) (fun b u hb hu => (sb.2 b hb).trans hu) ?_ (setO_new new))
  exact let ⟨o, _, _, _, ho, _⟩ := new; ⟨o, ho⟩
set_option maxHeartbeats 4000000 in
theorem pe_sc2 {elt tg iter tg1 iter1 : Expr} {ifs ifs1 : List Expr} {sc : Scope} {own : List (Str × Nat)} {vs1 : List Nat} {pos : Pos} {wi wi1 : TI} {g g1 : TG} {tt tt1 : TT} {te : TE} (hc : X.calm = true) (hN : X.N.Nodup) (hi : PI X tg iter wi) (ok : BlkOk X.N X.env.scope sc own) (hv : ∀ i ∈ vs1, i ∈ own.map (·.2))
    (hb : ∀ (s : Shared) (H : Hp) (C : Addr) (cl : List (Str × Addr)) (fp : List Addr), (PG (X.blk s H sc (compEnvC sc cl C X.env) fp) tg g ∧ PTs (X.blk s H sc (compEnvC sc cl C X.env) fp) ifs tt) ∧ (PI (X.blk s H sc (compEnvC sc cl C X.env) fp) tg1 iter1 wi1 ∧ PG (X.blk s H sc (compEnvC sc cl C X.env) fp) tg1 g1 ∧ PTs (X.blk s H sc (compEnvC sc cl C X.env) fp) ifs1 tt1) ∧ PE (X.blk s H sc (compEnvC sc cl C X.env) fp) elt te)
    (hs : ∀ x, foldedSetIterable iter X.env x = pure x := by intro _; rfl) (hs1 : ∀ env x, foldedSetIterable iter1 env x = pure x := by intro _ _; rfl) :
    PE X (Sc2 elt tg iter tg1 iter1 ifs ifs1 sc pos) (tSc2 X.w wi g tt wi1 g1 tt1 te (own.map (·.2)) vs1) := by
  refine ⟨fun pins s σ H Q I h => ?_⟩
  have hfree : ∀ y ∈ sc.names, y.2 = .free → ∃ c, X.env.cells.lookup y.1 = some c := fun y hy e => (ok.free y hy e).elim (fun z => I.ok.has _ (.inl z)) fun z => I.ok.has _ (.inr z)
  rw [PpSet.eval_SetComp]
  refine wpAny_comprehension_free (use := none) rfl hs (closure_ok hfree) ok.kind (fun y hy e => by rw [ok.uniq y hy, e]) (thn (hi.run pins s σ H _ I h) fun xv s1 hxs => thn hxs fun itv s2 h2 => ?_)
  obtain ⟨it, fp, tn, J, H2, rfl, I2, T, be2, f2, q⟩ := h2
  refine PpSet.newSet_ok (newEnv_comp ?_)
  generalize hD : s2.heap.objs.size = D
  have freeD : H2 D = none := I2.hok.fresh (Nat.le_of_eq hD)
  obtain ⟨W, ⟨m0, w0⟩, tick⟩ := q D freeD
  show codeAny _ _ (.compStart (Sc2 elt tg iter tg1 iter1 ifs ifs1 sc pos) 0 (.ref it) (.ref D) (compEnvC sc (cellsFrom ((withSet X.w s2).heap.objs.size + 1) sc.names (cloFrom X.env.cells sc.names [])) (withSet X.w s2).heap.objs.size X.env)) (compPost (model X.prog X.w) X.A X.xe none (EP X pins σ Q) (.ref D) (withSet X.w s2).heap.objs.size) { (withSet X.w s2) with heap := pushCells ((withSet X.w s2).heap.push { cls := .type "dict", data := .dict #[] }) sc.names }
  generalize hs3 : withSet X.w s2 = s3
  have h3 : s3.heap = s2.heap.push (noneSet X.w) := by rw [← hs3]
  have I3 : Inv X pins σ (upd H2 D (set0 X.w D)) s3 := by
    subst hs3 hD
    exact I2.laid (t' := s2.toks) (fun b o e => Heap.get?_push_of_some _ e) (Nat.le_refl _) (setO_new (setR_fresh X.w))
  have f3 : ∀ b ∈ fp, FpOk X pins (upd H2 D (set0 X.w D)) b ∧ b < s3.heap.objs.size := fun b hb => by
    obtain ⟨o, e, _⟩ := T.obj _ _ be2 b hb
    have lt := Heap.lt_size e
    exact ⟨⟨by rw [upd_ne (by rw [← hD]; exact Nat.ne_of_lt lt)]; exact (f2 b hb).1, (f2 b hb).2⟩, by rw [h3, Heap.size_push]; exact Nat.lt_succ_of_lt lt⟩
  have J4 := block_start I3 ok hN f3
  obtain ⟨⟨pg, pt⟩, ⟨pi1, pg1, pt1⟩, pe⟩ := hb s3 (upd H2 D (set0 X.w D)) s3.heap.objs.size (cellsFrom (s3.heap.objs.size + 1) sc.names (cloFrom X.env.cells sc.names [])) fp
  have no3 : ∀ b ∈ fp, (upd H2 D (set0 X.w D)) b = none := fun b hb => (f3 b hb).1.1
  have be3 : tn 0 s3.heap := T.keep _ _ _ be2 fun b _ o e => by rw [h3]; exact Heap.get?_push_of_some _ e
  generalize hce : compEnvC sc (cellsFrom (s3.heap.objs.size + 1) sc.names (cloFrom X.env.cells sc.names [])) s3.heap.objs.size X.env = ce at J4 pg pt pe pi1 pg1 pt1 ⊢
  have loc : ce.locals = s3.heap.objs.size := by subst hce; rfl
  generalize hH3 : upd H2 D (set0 X.w D) = H3 at I3 J4 pg pt pe pi1 pg1 pt1 w0 no3 f3
  generalize hs4 : ({ s3 with heap := pushCells (s3.heap.push { cls := .type "dict", data := .dict #[] }) sc.names } : Shared) = s4 at J4 ⊢
  have be4 : tn 0 s4.heap := T.keep _ _ _ be3 fun b _ o e => by subst hs4; exact pushCells_keeps _ _ _ _ (Heap.get?_push_of_some _ e)
  have free1 : ∀ {τ : L2.St} {G : Hp} {u : Shared}, Inv (X.blk s3 H3 sc ce fp) [] τ G u → (∀ b ∈ fp, G b = none) → ∀ b ∈ fp, FpOk (X.blk s3 H3 sc ce fp) [] G b := fun {τ G u} I' hn b hb =>
    ⟨hn b hb, (I'.ok.exf b hb).1, I'.ok.exfs b hb, .inl hb, fun x c e => (I'.ok.exf b hb).2 x c e, fun p hp => by simp at hp⟩
  /- the state between two turns of the first loop -/
  let At : Nat → Shared → Prop := fun n u => ∃ i G, Inv (X.blk s3 H3 sc ce fp) [] (wipe σ (own.map (·.2))) G u ∧ tn i u.heap ∧ (∀ b ∈ fp, G b = none) ∧ W i n G
  refine startS (.inl rfl) ?loop (T.self X.A 0 _ _ _ be4 ?loop)
  case loop =>
    refine loopS_out (hs1 ce) At ?_ m0 ⟨0, H3, J4, be4, no3, w0⟩
    rintro n s5 ⟨i, H5, I5, be5, n5, wd5⟩
    rcases tick i n H5 wd5 with ⟨stop, qq⟩ | ⟨go, Nx, hNx, step⟩
    · refine thnF (T.done (X.blk s3 H3 sc ce fp) rfl rfl rfl hc i [] s5 _ H5 (fun _ _ => False) I5 (free1 I5 n5) be5 stop) fun r s6 ⟨hr, I6⟩ => ?_
      subst hr
      have J7 : Inv X pins σ H5 s6 := I3.call' (ch := fp) I6.os I6.base I6.hok I6.bare fun b hb => ⟨(f3 b hb).1.2.2.2.1, (f3 b hb).1.2.1, (f3 b hb).1.2.2.2.2.1, (f3 b hb).1.2.2.2.2.2⟩
      have gone : H5 s3.heap.objs.size = none := loc ▸ (I6.free : H5 ce.locals = none)
      obtain ⟨m, hm, _⟩ := I6.loc
      obtain ⟨g0, g1', g2, g3, g4, g5⟩ := I3.fpOk (Nat.le_refl _) gone
      exact ⟨m, loc ▸ (hm : s6.heap.Ns ce.locals m), fun h'' sb => ⟨.ref D, H5, J7.turned (t' := s6.toks) (fun b o hb e => (sb.2 b hb).trans e) g0 g1' g3 g4 g5, rfl, qq⟩⟩
    · refine thnF (T.item (X.blk s3 H3 sc ce fp) rfl rfl rfl hc i [] s5 _ H5 (fun _ _ => False) I5 (free1 I5 n5) be5 go) fun r s6 ⟨u, hr, h6⟩ => ?_
      subst hr
      refine thnF h6 fun _ s7 ⟨x, H7, I7, r7, y7, be7, n7⟩ => thnF (pg.run _ s7 _ H7 x u _ (I7.pinned (free1 I7 n7) (T.obj _ _ be7)) r7 (step x H7 y7)) fun _ s8 ⟨σ8, H8, I8, hw8, q8⟩ => thnF (pt.run _ s8 σ8 H8 _ I8 q8) fun b s9 ⟨H9, I9, q9⟩ => ?_
      have back : ∀ {τ : L2.St} {u : Shared} {G : Hp}, Inv (X.blk s3 H3 sc ce fp) ([] ++ pinsAt fp s7.heap) τ G u → (wipe σ (own.map (·.2))).length = τ.length → (∀ (j : Nat) v, (wipe σ (own.map (·.2)))[j]? = some (some v) → τ[j]? = some (some v)) → Nx G → ∃ m, m < n ∧ At m u := fun {τ u G} I' hl hk nx => by
        obtain ⟨m', hm, w'⟩ := hNx G nx
        have pin : ∀ b ∈ fp, ∀ o, s7.heap.get? b = some o → u.heap.get? b = some o ∧ G b = none := fun b hb o e => ⟨(I'.pin (b, o) (List.mem_append_right _ (List.mem_append_right _ (mem_pinsAt hb e)))).1, (I'.pin (b, o) (List.mem_append_right _ (List.mem_append_right _ (mem_pinsAt hb e)))).2.1⟩
        refine ⟨m', hm, i + 1, G, (I'.unpinned (pins := [])).weak hl hk, T.keep _ _ _ be7 fun b hb o e => (pin b hb o e).1, fun b hb => ?_, w'⟩
        obtain ⟨o, e, _⟩ := T.obj _ _ be7 b hb
        exact (pin b hb o e).2
      have l8 : (wipe σ (own.map (·.2))).length = σ8.length := by rw [← hw8, wipe_length]
      have k8 : ∀ (j : Nat) v, (wipe σ (own.map (·.2)))[j]? = some (some v) → σ8[j]? = some (some v) := fun j v e => (wipe_some (hw8 ▸ e)).1
      have k9 : ∀ (j : Nat) v, (wipe σ (own.map (·.2)))[j]? = some (some v) → (wipe σ8 vs1)[j]? = some (some v) := fun j v e => by
        obtain ⟨e1, out2⟩ := wipe_some (hw8 ▸ e)
        rw [wipe_out fun z => out2 (hv j z)]
        exact e1
      match b, q9 with
      | false, q9 =>
        show ∃ m, m < n ∧ At m s9
        exact back I9 l8 k8 q9
      | true, q9 =>
        refine thnF (pi1.run _ s9 σ8 H9 _ I9 q9) fun xv s10 hxs => thnF hxs fun itv s11 h11 => ?_
        obtain ⟨it1, fp1, tn1, J1, H11, rfl, I11, T1, be11, f11, W1, ⟨m1, w1⟩, tick1⟩ := h11
        have free2 : ∀ {G : Hp}, (∀ b ∈ fp1, G b = none) → ∀ b ∈ fp1, FpOk (X.blk s3 H3 sc ce fp) ([] ++ pinsAt fp s7.heap) G b := fun hn b hb => ⟨hn b hb, (f11 b hb).2⟩
        let At1 : Nat → Shared → Prop := fun k u => ∃ j G, Inv (X.blk s3 H3 sc ce fp) ([] ++ pinsAt fp s7.heap) (wipe σ8 vs1) G u ∧ tn1 j u.heap ∧ (∀ b ∈ fp1, G b = none) ∧ W1 j k G
        refine startS (.inr rfl) ?inner (T1.self X.A 0 _ _ _ be11 ?inner)
        case inner =>
          refine loopS_in At1 ?_ m1 ⟨0, H11, I11.weak (wipe_length _ _) (fun j v e => (wipe_some e).1), be11, fun b hb => (f11 b hb).1, w1⟩
          rintro k s12 ⟨j, H12, I12, be12, n12, wd12⟩
          rcases tick1 j k H12 wd12 with ⟨stop1, nx1⟩ | ⟨go1, Nx1, hNx1, step1⟩
          · refine thnF (T1.done (X.blk s3 H3 sc ce fp) rfl rfl rfl hc j _ s12 (wipe σ8 vs1) H12 (fun _ _ => False) I12 (free2 n12) be12 stop1) fun r s13 ⟨hr, I13⟩ => ?_
            subst hr
            exact back I13 (l8.trans (wipe_length σ8 vs1).symm) k9 nx1
          · refine thnF (T1.item (X.blk s3 H3 sc ce fp) rfl rfl rfl hc j _ s12 (wipe σ8 vs1) H12 (fun _ _ => False) I12 (free2 n12) be12 go1) fun r s13 ⟨u1, hr, h13⟩ => ?_
            subst hr
            refine thnF h13 fun _ s14 ⟨x1, H14, I14, r14, y14, be14, n14⟩ => thnF (pg1.run _ s14 (wipe σ8 vs1) H14 x1 u1 _ (I14.pinned (free2 n14) (T1.obj _ _ be14)) r14 (step1 x1 H14 y14)) fun _ s15 ⟨σ15, H15, I15, hw15, q15⟩ => thnF (pt1.run _ s15 σ15 H15 _ I15 q15) fun b1 s16 ⟨H16, I16, q16⟩ => ?_
            have back1 : ∀ {u : Shared} {G : Hp}, Inv (X.blk s3 H3 sc ce fp) (([] ++ pinsAt fp s7.heap) ++ pinsAt fp1 s14.heap) σ15 G u → Nx1 G → ∃ m, m < k ∧ At1 m u := fun {u G} I' nx => by
              obtain ⟨m', hm, w'⟩ := hNx1 G nx
              have pin : ∀ b ∈ fp1, ∀ o, s14.heap.get? b = some o → u.heap.get? b = some o ∧ G b = none := fun b hb o e => ⟨(I'.pin (b, o) (List.mem_append_right _ (List.mem_append_right _ (mem_pinsAt hb e)))).1, (I'.pin (b, o) (List.mem_append_right _ (List.mem_append_right _ (mem_pinsAt hb e)))).2.1⟩
              refine ⟨m', hm, j + 1, G, I'.unpinned.weak (by rw [← hw15, wipe_length]) (fun j v e => (wipe_some (hw15 ▸ e)).1), T1.keep _ _ _ be14 fun b hb o e => (pin b hb o e).1, fun b hb => ?_, w'⟩
              obtain ⟨o, e, _⟩ := T1.obj _ _ be14 b hb
              exact (pin b hb o e).2
            match b1, q16 with
            | false, q16 =>
              show ∃ m, m < k ∧ At1 m s16
              exact back1 I16 q16
            | true, q16 =>
              refine thnF (pe.run _ s16 σ15 H16 _ I16 q16) fun z s17 ⟨yv, H17, I17, r17, c, S0, n0, ey, hD17, room, nx⟩ => ?_
              subst ey
              exact add_int (X := X.blk s3 H3 sc ce fp) I17 hD17 room r17 fun s18 I18 => back1 I18 nx
end
end Tc
/-! name = {dict comprehension}; tuple(list) as a tuple without a dict of its own; dict(tuple of pairs) -/
namespace Tc
open PySem PySem.Spec PyProof.Rows L2
section
variable {X : Cx}
theorem ps_setDc {i : Nat} {y : Str} {py : Pos} {kx vx tg iter : Expr} {ifs : List Expr} {scope : Scope} {own : List (Str × Nat)} {pos spos : Pos} {wi : TI} {g : TG} {tt : TT} {tk tv : TE} (hc : X.calm = true) (hN : X.N.Nodup) (hy : X.N[i]? = some y) (hyl : X.env.scope.names.lookup y = some .local)
    (hsw : swapsWith (.DictComp kx vx [⟨tg, iter, ifs, 0⟩] scope pos) (some (.Name y py)) spos.line X.env = pure true) (hi : PI X tg iter wi) (ok : BlkOk X.N X.env.scope scope own)
    (hb : ∀ (s : Shared) (H : Hp) (C : Addr) (cl : List (Str × Addr)) (fp : List Addr), PG (X.blk s H scope (compEnvC scope cl C X.env) fp) tg g ∧ PTs (X.blk s H scope (compEnvC scope cl C X.env) fp) ifs tt ∧ PE (X.blk s H scope (compEnvC scope cl C X.env) fp) kx tk ∧ PE (X.blk s H scope (compEnvC scope cl C X.env) fp) vx tv)
    (hs : ∀ x, foldedSetIterable iter X.env x = pure x := by intro _; rfl) :
    PS X (.Assign [.Name y py] (.DictComp kx vx [⟨tg, iter, ifs, 0⟩] scope pos) spos) (tAsg (tDc wi g tt tk tv (own.map (·.2))) (gName i)) := by
  refine ⟨fun pins s σ H D I hyp => (exec_Assign_Name_used _ _ _ _ hsw).symm ▸ wpAny_bind (wpAny_standAt (wpAny_bind ?_))⟩
  have made : tDc wi g tt tk tv (own.map (·.2)) σ H (fun x H1 => gName i x σ H1 D.nx) := hyp
  show wpAny _ X.A (comprehension (.DictComp kx vx [⟨tg, iter, ifs, 0⟩] scope pos) scope X.env (firstIterPos [⟨tg, iter, ifs, 0⟩] pos) newDict false (eval iter X.env) (some (assign (.Name y py) X.env)) >>= _) _ _ s
  refine wpAny_bind (thn (dc_core (Qf := fun _ s' => SP X pins D .next s') hc hN I hi ok (fun s H C cl fp => (hb s H C cl fp).1) (fun s H C cl fp => (hb s H C cl fp).2.1) (fun s H C cl fp => (hb s H C cl fp).2.2.1) (fun s H C cl fp => (hb s H C cl fp).2.2.2) hs made fun L C t m G J q ns ⟨g0, g1, g2, g3, g4, g5⟩ => ?_) fun _ t done => wpAny_pure (wpAny_pure done))
  /- the name is stored while the comprehension's frame still stands -/
  refine (show wpAny _ _ (assign (.Name y py) X.env (.ref L)) _ _ _ from wpAny_assign_Name (store_ok2 (v := V.ref L) J hN hy (.inl hyl) rfl (fun t2 J2 ⟨c, but, at_⟩ => ?_) (.inr hyl)))
  have apart : C ≠ c := at_.elim (fun z => z ▸ g1) fun z e => g4 y c z e.symm
  exact ⟨m, ns.sameBut but apart, fun _ but3 => ⟨_, G, J2.turned (t' := t2.toks) (fun x o n e => (but3.2 x n).trans e) g0 g1 g3 g4 g5, q⟩⟩
theorem sw_trueD {kx vx : Expr} {gs : List Comprehension} {scope : Scope} {pos py : Pos} {y : Str} {l : Nat} {env : Env} (hk : env.scope.kind = .function) (hy : env.scope.names.lookup y = some .local) (hl : (py.line == pos.line) = true)
    (ha : (scope.names.any fun (n, k) => n == y && (k == .local || k == .cell)) = false) : swapsWith (.DictComp kx vx gs scope pos) (some (.Name y py)) l env = pure true := by
  have kind : env.kindOf y = some .local ∧ env.blockKind = .function := ⟨hy, by simp only [Env.blockKind, hk]; rfl⟩
  simp only [swapsWith, kind, ha, hl, Expr.pos]
  rfl
/-- a tuple that is known to have no dict of its own -/
def PT (H : Hp) (a : Addr) (xs : List V) : Prop := ∃ o : Obj, H a = some (.frz o (.tup xs)) ∧ o.dict = none
theorem PT.same {H H' : Hp} {a : Addr} {xs : List V} (h : PT H a xs) (e : Same H H') : PT H' a xs := let ⟨o, x, d⟩ := h; ⟨o, e a _ x, d⟩
theorem PT.st {K : PySem.W.Frag} {H : Hp} {a : Addr} {xs : List V} (h : PT H a xs) : SqT K H a xs := let ⟨o, x, _⟩ := h; .inl (.inr ⟨o, x⟩)
/-- tuple(list) -/
def rTupP (K : PySem.W.Frag) : List V → Hp → VK → Prop := fun xs H Q => ∃ (p : Addr) (ys : List V), xs = [.ref p] ∧ SqL K H p ys ∧ ∀ (l : Addr) (o : Obj), H l = none → o.dict = none → Q (.ref l) (upd H l (.frz o (.tup ys)))
theorem cr_tupP : CallR X (.type "tuple") (rTupP X.K) := by
  intro pins s σ H xs us Q I r ⟨p, ys, e0, hs, fin⟩
  subst e0
  rw [Vals.ref1 r]
  have ⟨its, rv, pl, size⟩ := I.list hs
  refine call_tuple_list pl.isList (fun g keep => ?_) (by rw [List.size_toArray, ← rv.length]; exact size)
  have kept := I.kept (h' := g) (t' := s.toks) keep
  refine ⟨.ref g.objs.size, _, ?_, rfl, fin _ { cls := .type "tuple", data := .seq its.toArray } (kept.hok.fresh (Nat.le_refl _)) rfl⟩
  exact kept.laid (t' := s.toks) (fun b o e => Heap.get?_push_of_some _ e) (Nat.le_refl _) (show ObjOk X.prog X.w _ _ _ (.frz _ (.tup ys)) from ⟨Heap.get?_push_size _ rfl, size, its, rv, IsTup.new _ _⟩)
/-- dict(tuple of pairs) -/
def rDictT (K : PySem.W.Frag) : List V → Hp → VK → Prop := fun xs H Q => ∃ (a : Addr) (ps : List Addr) (kvs : List (Key × V)), xs = [.ref a] ∧ PT H a (ps.map V.ref) ∧ Paired (fun p kv => SqT K H p [kV kv.1, kv.2]) ps kvs ∧
    ∀ p, H p = none → Q (.ref p) (upd H p (.dK (mergeK [] kvs)))
theorem cr_dictT (hcalm : X.calm = true) : CallR X (.type "dict") (rDictT X.K) := by
  intro pins s σ H xs us Q I r ⟨a, ps, kvs, e0, ⟨o, ho, hdn⟩, hp, q⟩
  subst e0
  rw [Vals.ref1 r]
  obtain ⟨hg, hz, its, rv, o', hg', hcl, n, hdat⟩ := (show ObjOk X.prog X.w H s.heap a (.frz o (.tup (ps.map V.ref))) from I.hok a _ ho)
  obtain rfl : o = o' := Option.some.inj (hg.symm.trans hg')
  have ei := refs_at rv
  subst ei
  rw [List.length_map] at hz
  have ⟨prs, rel, hl, hpr⟩ := pairs_of I hp
  have key : ∃ qs : List (Value × Value), qs.length = prs.length ∧ ∀ (j : Nat) (k v : Value), qs[j]? = some (k, v) → ∃ q, prs[j]? = some q ∧ q.2 = v ∧ ∃ b, ps[j]? = some b ∧ IsTup s.heap b #[k, v] ∧ keyIs q.1 k = true := by
    clear q rel
    have : ∀ (n : Nat), n ≤ prs.length → ∃ qs : List (Value × Value), qs.length = n ∧ ∀ (j : Nat) (k v : Value), qs[j]? = some (k, v) → ∃ q, prs[j]? = some q ∧ q.2 = v ∧ ∃ b, ps[j]? = some b ∧ IsTup s.heap b #[k, v] ∧ keyIs q.1 k = true := by
      intro n
      induction n with
      | zero => exact fun _ => ⟨[], rfl, fun j k v e => by simp at e⟩
      | succ n ih =>
        intro hn
        obtain ⟨qs, l1, h1⟩ := ih (by omega)
        obtain ⟨b, u, e1, e2, e3⟩ := hpr n prs[n] (by simp)
        refine ⟨qs ++ [(u, prs[n].2)], by simp [l1], fun j k v e => ?_⟩
        by_cases hj : j < qs.length
        · rw [List.getElem?_append_left hj] at e
          exact h1 j k v e
        · rw [List.getElem?_append_right (by omega)] at e
          have hj0 : j - qs.length = 0 := by
            rcases Nat.eq_zero_or_pos (j - qs.length) with z | z
            · exact z
            · rw [List.getElem?_eq_none (by simp; omega)] at e
              cases e
          rw [hj0] at e
          have ej : j = n := by omega
          subst ej
          simp only [List.getElem?_cons_zero, Option.some.injEq, Prod.mk.injEq] at e
          obtain ⟨rfl, rfl⟩ := e
          exact ⟨prs[j], by simp, rfl, b, e1, e2, e3⟩
    exact this _ (Nat.le_refl _)
  obtain ⟨qs, lq, hqs⟩ := key
  refine PySem.call_dict_pairs (knd := mixKind X.prog X.w) (kvs := prs) (PairArg.tuple a (ps.map Value.ref).toArray (fun j => ps.getD j 0) qs) (I.ok.hd hcalm) ⟨⟨o, n, hg, hcl, hdn, hdat⟩, by simp [lq, hl], fun j k v e => ?_⟩ ⟨lq.symm, fun j k v e => ?_⟩ (by rw [lq, hl]; exact hz) fun h' tk hd' k => ?_
  · obtain ⟨q', e1, e2, b, e3, e4, e5⟩ := hqs j k v e
    have eb : ps.getD j 0 = b := by rw [List.getD_eq_getElem?_getD, e3]; rfl
    refine ⟨by simp [e3], .inl ?_⟩
    show s.heap.IsTuple (ps.getD j 0) _
    rw [eb]
    exact e4
  · obtain ⟨q', e1, e2, b, e3, e4, e5⟩ := hqs j k v e
    exact ⟨q'.1, by rw [e1, ← e2], e5⟩
  · have few : (mergeK [] kvs).length ≤ sizeLine := Nat.le_trans (length_mergeK kvs []) (by simpa [rel.length, hl] using hz)
    refine ⟨.ref s.heap.objs.size, upd H s.heap.objs.size (.dK (mergeK [] kvs)), ?_, rfl, q _ (I.hok.fresh (Nat.le_refl _))⟩
    exact I.laid (t' := tk) (fun b o e => k b o (by simp) e) (Nat.le_refl _) (show ObjOk X.prog X.w _ _ _ (.dK (mergeK [] kvs)) from ⟨few, beq_eq_false_iff_ne.mpr (Nat.ne_of_gt I.big), merged [] prs, KV.merge rel .nil, hd'⟩)
end
end Tc
/-! a dict of worths by keys, and what changes do to it -/
namespace Tc
open PySem PySem.Spec PyProof.Rows L2
def fset (f : Int → Option Int) (k : Int) (o : Option Int) : Int → Option Int := fun j => if j = k then o else f j
def appl (f : Int → Option Int) (cs : List (Int × Option Int)) : Int → Option Int := cs.foldl (fun f c => fset f c.1 c.2) f
theorem appl_app (f : Int → Option Int) (a b : List (Int × Option Int)) : appl f (a ++ b) = appl (appl f a) b := by
  unfold appl
  rw [List.foldl_append]
/-- keys that are not told stay -/
theorem appl_out : ∀ (cs : List (Int × Option Int)) (f : Int → Option Int) (k : Int), (∀ c ∈ cs, c.1 ≠ k) → appl f cs k = f k
  | [], _, _, _ => rfl
  | c :: cs, f, k, h => by
    show appl (fset f c.1 c.2) cs k = f k
    rw [appl_out cs _ k fun c' m => h c' (List.mem_cons_of_mem _ m)]
    exact if_neg fun e => h c List.mem_cons_self e.symm
/-- keys that are told don't hang on what was ahead -/
theorem appl_in : ∀ (cs : List (Int × Option Int)) (f g : Int → Option Int) (k : Int), (∃ c ∈ cs, c.1 = k) ∨ f k = g k → appl f cs k = appl g cs k
  | [], _, _, _, h => by
    rcases h with ⟨c, m, _⟩ | h
    · cases m
    · exact h
  | c :: cs, f, g, k, h => by
    show appl (fset f c.1 c.2) cs k = appl (fset g c.1 c.2) cs k
    refine appl_in cs _ _ k ?_
    by_cases e : k = c.1
    · right
      unfold fset
      rw [if_pos e, if_pos e]
    · rcases h with ⟨c', m, e'⟩ | h
      · rcases List.mem_cons.mp m with z | m
        · subst z
          exact absurd e'.symm e
        · exact .inl ⟨c', m, e'⟩
      · right
        unfold fset
        rw [if_neg e, if_neg e]
        exact h
structure DI (ks : List Int) (kvs : List (Key × V)) (f : Int → Option Int) : Prop where
  nd : (kvs.map (·.1)).Nodup
  inn : ∀ p ∈ kvs, ∃ k ∈ ks, p.1 = Sum.inl k
  val : ∀ k, valV kvs (Sum.inl k) = (f k).map V.int
theorem DI.nil {ks : List Int} : DI ks [] fun _ => none := ⟨List.nodup_nil, fun p m => (by cases m), fun k => rfl⟩
theorem valV_drop {k j : Key} : ∀ kvs : List (Key × V), valV (dropK kvs k) j = if j = k then none else valV kvs j
  | [] => by
    show valV [] j = _
    rw [valV_nil]
    split <;> rfl
  | p :: r => by
    by_cases e : p.1 = k
    · rw [dropK_pos e, valV_drop r]
      by_cases h : j = k
      · rw [if_pos h, if_pos h]
      · rw [if_neg h, if_neg h, valV_neg fun z => h (z.symm.trans e)]
    · rw [dropK_neg e]
      by_cases h : p.1 = j
      · rw [valV_pos h, valV_pos h, if_neg fun z => e (h.trans z)]
      · rw [valV_neg h, valV_neg h, valV_drop r]
theorem mem_putK {kvs : List (Key × V)} {k : Key} {v : V} {p : Key × V} (h : p ∈ putK kvs k v) : p.1 = k ∨ ∃ q ∈ kvs, q.1 = p.1 := by
  unfold putK at h
  split at h
  · obtain ⟨q, m, rfl⟩ := List.mem_map.mp h
    refine .inr ⟨q, m, ?_⟩
    split <;> rfl
  · rcases List.mem_append.mp h with h | h
    · exact .inr ⟨p, h, rfl⟩
    · rw [List.mem_singleton.mp h]
      exact .inl rfl
theorem putK_old {kvs : List (Key × V)} {k : Key} {v : V} (h : (valV kvs k).isSome = true) : (putK kvs k v).map (·.1) = kvs.map (·.1) := by
  unfold putK
  rw [if_pos (by rw [valV_any]; exact h), List.map_map]
  refine List.map_congr_left fun p _ => ?_
  show (if p.1 = k then (p.1, v) else p).1 = p.1
  split <;> rfl
section
variable {ks : List Int} {kvs : List (Key × V)} {f : Int → Option Int} {k : Int} {w : Int}
theorem DI.put (h : DI ks kvs f) (hk : k ∈ ks) : DI ks (putK kvs (.inl k) (.int w)) (fset f k (some w)) := by
  refine ⟨?_, fun p m => ?_, fun j => ?_⟩
  · cases e : valV kvs (.inl k) with
    | none => exact nd_putK _ h.nd e
    | some v => rw [putK_old (by rw [e]; rfl)]; exact h.nd
  · rcases mem_putK m with e | ⟨q, m, e⟩
    · exact ⟨k, hk, e⟩
    · obtain ⟨j, hj, e'⟩ := h.inn q m
      exact ⟨j, hj, e ▸ e'⟩
  · rw [valV_put, h.val]
    unfold fset
    by_cases e : j = k
    · rw [if_pos e, if_pos (by rw [e])]
      rfl
    · rw [if_neg e, if_neg fun z => e (Sum.inl.inj z)]
theorem DI.drop (h : DI ks kvs f) : DI ks (dropK kvs (.inl k)) (fset f k none) := by
  refine ⟨nd_dropK h.nd, fun p m => h.inn p (dropK_mem m), fun j => ?_⟩
  rw [valV_drop, h.val]
  unfold fset
  by_cases e : j = k
  · rw [if_pos e, if_pos (by rw [e])]
    rfl
  · rw [if_neg e, if_neg fun z => e (Sum.inl.inj z)]
theorem DI.gone (h : DI ks kvs f) (hk : f k = none) : DI ks kvs (fset f k none) := ⟨h.nd, h.inn, fun j => by
  rw [h.val]
  unfold fset
  by_cases e : j = k
  · rw [if_pos e, e, hk]
  · rw [if_neg e]⟩
end
theorem len_sub {α : Type} [DecidableEq α] : ∀ {l m : List α}, l.Nodup → (∀ x ∈ l, x ∈ m) → l.length ≤ m.length
  | [], _, _, _ => Nat.zero_le _
  | x :: l, m, hn, hs => by
    obtain ⟨h1, h2⟩ := List.nodup_cons.mp hn
    have hx : x ∈ m := hs x List.mem_cons_self
    have := len_sub (l := l) (m := m.erase x) h2 fun y hy => (List.mem_erase_of_ne (a := y) (b := x) fun (e : y = x) => h1 (e ▸ hy)).mpr (hs y (List.mem_cons_of_mem _ hy))
    rw [List.length_erase_of_mem hx] at this
    have hp := List.length_pos_of_mem hx
    rw [List.length_cons]
    omega
theorem inls : ∀ {l : List Key}, (∀ x ∈ l, ∃ k, x = Sum.inl k) → ∃ js : List Int, l = js.map Sum.inl
  | [], _ => ⟨[], rfl⟩
  | x :: l, h => by
    obtain ⟨k, rfl⟩ := h x List.mem_cons_self
    obtain ⟨js, rfl⟩ := inls fun y m => h y (List.mem_cons_of_mem _ m)
    exact ⟨k :: js, rfl⟩
theorem valV_memI {kvs : List (Key × V)} {k : Key} : k ∈ kvs.map (·.1) ↔ (valV kvs k).isSome = true := by
  rw [← valV_any, List.any_eq_true, List.mem_map]
  constructor
  · rintro ⟨p, m, e⟩
    exact ⟨p, m, decide_eq_true e⟩
  · rintro ⟨p, m, e⟩
    exact ⟨p, m, of_decide_eq_true e⟩
theorem DI.keys {ks : List Int} {kvs : List (Key × V)} {f : Int → Option Int} (h : DI ks kvs f) : ∃ js : List Int, kvs.map (·.1) = js.map Sum.inl ∧ js.Nodup ∧ (∀ k, k ∈ js ↔ (f k).isSome = true) ∧ js.length ≤ ks.length := by
  obtain ⟨js, e⟩ := inls (l := kvs.map (·.1)) fun x m => by
    obtain ⟨p, hp, rfl⟩ := List.mem_map.mp m
    obtain ⟨k, _, e⟩ := h.inn p hp
    exact ⟨k, e⟩
  have nd : js.Nodup := by
    have := h.nd
    rw [e] at this
    exact (List.pairwise_map.mp this).imp fun {a b} z e => z (congrArg _ e)
  have mem : ∀ k, k ∈ js ↔ (f k).isSome = true := fun k => by
    have := valV_memI (kvs := kvs) (k := .inl k)
    rw [e, h.val, Option.isSome_map] at this
    rw [← this, List.mem_map]
    constructor
    · exact fun m => ⟨k, m, rfl⟩
    · rintro ⟨j, m, z⟩
      cases z
      exact m
  refine ⟨js, e, nd, mem, len_sub nd fun x hx => ?_⟩
  have : (Sum.inl x : Key) ∈ kvs.map (·.1) := e ▸ List.mem_map.mpr ⟨x, hx, rfl⟩
  obtain ⟨p, hp, e'⟩ := List.mem_map.mp this
  obtain ⟨k, hk, e''⟩ := h.inn p hp
  cases (e'.symm.trans e'' : (Sum.inl x : Key) = Sum.inl k)
  exact hk
theorem DI.len {ks : List Int} {kvs : List (Key × V)} {f : Int → Option Int} (h : DI ks kvs f) : kvs.length ≤ ks.length := by
  obtain ⟨js, e, _, _, l⟩ := h.keys
  have := congrArg List.length e
  rw [List.length_map, List.length_map] at this
  omega
/-- the keys that have a worth, rising -/
def KeysOf (f : Int → Option Int) (js : List Int) : Prop := js.Pairwise (· < ·) ∧ ∀ k, k ∈ js ↔ (f k).isSome = true
theorem KeysOf.one {f : Int → Option Int} {a b : List Int} (h : KeysOf f a) (h' : KeysOf f b) : a = b := rising_one a b h.1 h'.1 fun k => (h.2 k).trans (h'.2 k).symm
theorem lt_of_le_nodup {js : List Int} (h : js.Pairwise (· ≤ ·)) (hn : js.Nodup) : js.Pairwise (· < ·) := by
  have : js.Pairwise fun a b => a ≤ b ∧ a ≠ b := List.Pairwise.and h hn
  exact this.imp fun {a b} z => by omega
/-- the rows of f -/
def rowsOf (f : Int → Option Int) (js : List Int) : List (Int × Int) := js.map fun k => (k, (f k).getD 0)
/-- what the rows make of nothing -/
def fRows (rs : List (Int × Int)) : Int → Option Int := appl (fun _ => none) (rs.map fun r => (r.1, some r.2))
theorem appl_rows (f : Int → Option Int) : ∀ (js : List Int) (g : Int → Option Int) (k : Int), (∀ k ∈ js, (f k).isSome = true) → appl g ((rowsOf f js).map fun r => (r.1, some r.2)) k = if k ∈ js then f k else g k
  | [], g, k, _ => by
    rw [if_neg (by simp)]
    rfl
  | j :: js, g, k, h => by
    show appl (fset g j (some ((f j).getD 0))) ((rowsOf f js).map fun r => (r.1, some r.2)) k = _
    rw [appl_rows f js _ k fun k m => h k (List.mem_cons_of_mem _ m)]
    by_cases m : k ∈ js
    · rw [if_pos m, if_pos (List.mem_cons_of_mem _ m)]
    · rw [if_neg m]
      unfold fset
      by_cases e : k = j
      · subst e
        rw [if_pos rfl, if_pos List.mem_cons_self]
        have := h k List.mem_cons_self
        cases hf : f k with
        | none => rw [hf] at this; cases this
        | some w => rfl
      · rw [if_neg e, if_neg fun z => (List.mem_cons.mp z).elim e m]
/-- the rows of f make f -/
theorem fRows_of {f : Int → Option Int} {js : List Int} (h : KeysOf f js) : fRows (rowsOf f js) = f := by
  funext k
  unfold fRows
  rw [appl_rows f js _ k fun k m => (h.2 k).mp m]
  by_cases m : k ∈ js
  · rw [if_pos m]
  · rw [if_neg m]
    cases e : f k with
    | none => rfl
    | some w => exact absurd ((h.2 k).mpr (by rw [e]; rfl)) m
end Tc
/-! changes, entries and logs as data; promises of what the program makes of them -/
namespace Tc
open PySem L2 Evl
def chD : PyData → Int × Option Int
  | .tuple [.str _, .int k] => (k, none)
  | .tuple [.str _, .int k, .int w] => (k, some w)
  | _ => (0, none)
def goodCh (ks : List Int) : PyData → Bool
  | .tuple [.str s, .int k] => decide (s = "drop") && decide (k ∈ ks)
  | .tuple [.str s, .int k, .int w] => decide (s = "put") && (decide (k ∈ ks) && decide (0 ≤ w ∧ w < 1000))
  | _ => false
def chsD : PyData → List PyData
  | .tuple [.str _, .tuple cs] => cs
  | _ => []
def goodEn (ks : List Int) : PyData → Bool
  | .tuple [.str s, .tuple cs] => decide (s = "group") && cs.all (goodCh ks)
  | .tuple [.str s, .int _, .int _] => !decide (s = "group") && PyData.strOk s
  | _ => false
def enD (d : PyData) : List (Int × Option Int) := (chsD d).map chD
def lgD (ds : List PyData) : List (Int × Option Int) := ds.flatMap enD
theorem lgD_app (a b : List PyData) : lgD (a ++ b) = lgD a ++ lgD b := List.flatMap_append
theorem lgD_snoc (a : List PyData) (d : PyData) : lgD (a ++ [d]) = lgD a ++ enD d := by
  rw [lgD_app]
  congr 1
  exact List.append_nil _
def pairD (r : Int × Int) : PyData := .tuple [.int r.1, .int r.2]
def rowsD (rs : List (Int × Int)) : PyData := .tuple (rs.map pairD)
section
variable {K : PySem.W.Frag} {H H' : Hp} {D : Addr} {kvs : List (Key × V)}
/-- all but the dict at D stays -/
def Bar (D : Addr) (H H' : Hp) : Prop := ∀ a o, a ≠ D → H a = some o → H' a = some o
theorem Bar.refl (D : Addr) (H : Hp) : Bar D H H := fun _ _ _ h => h
theorem Bar.trans {H1 H2 : Hp} (a : Bar D H H1) (b : Bar D H1 H2) : Bar D H H2 := fun x o n h => b x o n (a x o n h)
theorem Bar.ex (e : Ex H H') : Bar D H H' := fun x o _ h => e x o h
theorem Bar.put (e : Bar D H H') {o : HO} : Bar D H (upd H' D o) := fun x u n h => by
  rw [upd_ne n]
  exact e x u n h
theorem Bar.exOf {H0 : Hp} (e : Bar D H H') (h0 : Ex H0 H) (hD : H0 D = none) : Ex H0 H' := fun a o h => e a o (fun z => by
  subst z
  rw [hD] at h
  cases h) (h0 a o h)
theorem bar_rd {a : Addr} {u : HO} (hD : H D = some (.dK kvs)) (e : Bar D H H') (hu : ∀ kvs, u ≠ .dK kvs) (hf : ∀ o kvs', HO.frz o u ≠ .dK kvs') (h : Rd H a u) : Rd H' a u := by
  rcases h with h | ⟨o, h⟩
  · exact .inl (e a _ (fun z => by
      subst z
      rw [hD] at h
      exact hu _ (Option.some.inj h).symm) h)
  · exact .inr ⟨o, e a _ (fun z => by
      subst z
      rw [hD] at h
      cases h) h⟩
theorem bar_t {a : Addr} {xs : List V} (hD : H D = some (.dK kvs)) (e : Bar D H H') (h : SqT K H a xs) : SqT K H' a xs := by
  rcases h with h | h
  · exact .inl (bar_rd hD e (fun _ z => nomatch z) (fun _ _ z => nomatch z) h)
  · exact .inr h
theorem bar_l {a : Addr} {xs : List V} (hD : H D = some (.dK kvs)) (e : Bar D H H') (h : SqL K H a xs) : SqL K H' a xs := by
  rcases h with h | h
  · exact .inl (bar_rd hD e (fun _ z => nomatch z) (fun _ _ z => nomatch z) h)
  · exact .inr h
mutual
theorem dp_bar (hD : H D = some (.dK kvs)) (e : Bar D H H') : ∀ (d : PyData) (v : V), Dp K H v d → Dp K H' v d
  | _, _, .non => .non
  | _, _, .bl b => .bl b
  | _, _, .int i => .int i
  | _, _, .str x => .str x
  | _, _, .lst h r => .lst (bar_l hD e h) (dps_bar hD e _ _ r)
  | _, _, .tup h r => .tup (bar_t hD e h) (dps_bar hD e _ _ r)
theorem dps_bar (hD : H D = some (.dK kvs)) (e : Bar D H H') : ∀ (ds : List PyData) (vs : List V), DpAll K H vs ds → DpAll K H' vs ds
  | _, _, .nil => .nil
  | _, _, .cons h r => .cons (dp_bar hD e _ _ h) (dps_bar hD e _ _ r)
end
/-- a table told by the program: a tuple without a dict, of pairs -/
def TP (K : PySem.W.Frag) (H : Hp) (p : Addr) (rs : List (Int × Int)) : Prop := ∃ xs, PT H p xs ∧ DpAll K H xs (rs.map pairD)
theorem TP.same {p : Addr} {rs : List (Int × Int)} (h : TP K H p rs) (e : Same H H') : TP K H' p rs := let ⟨xs, a, b⟩ := h; ⟨xs, a.same e, dps_same e _ _ b⟩
theorem TP.dp {p : Addr} {rs : List (Int × Int)} (h : TP K H p rs) : Dp K H (.ref p) (rowsD rs) := let ⟨_, a, b⟩ := h; .tup a.st b
theorem pairs_dp : ∀ {rs : List (Int × Int)} {xs : List V}, DpAll K H xs (rs.map pairD) → ∃ ps : List Addr, xs = ps.map V.ref ∧ Paired (fun p (kv : Key × V) => SqT K H p [kV kv.1, kv.2]) ps (rs.map fun r => ((Sum.inl r.1 : Key), V.int r.2))
  | [], _, h => by
    cases h
    exact ⟨[], rfl, .nil⟩
  | r :: rs, xs, h => by
    rw [List.map_cons] at h
    cases h with
    | cons a t =>
      obtain ⟨ps, rfl, p⟩ := pairs_dp t
      unfold pairD at a
      cases a with
      | tup hs hh =>
        cases hh with
        | cons h1 t1 =>
          cases t1 with
          | cons h2 t2 =>
            cases t2
            cases h1
            cases h2
            exact ⟨_ :: ps, rfl, .cons hs p⟩
theorem merge_rows {ks : List Int} : ∀ (rs : List (Int × Int)) (kvs : List (Key × V)) (f : Int → Option Int), (∀ r ∈ rs, r.1 ∈ ks) → DI ks kvs f → DI ks (mergeK kvs (rs.map fun r => ((Sum.inl r.1 : Key), V.int r.2))) (appl f (rs.map fun r => (r.1, some r.2)))
  | [], _, _, _, h => h
  | r :: rs, kvs, f, hk, h => merge_rows rs (putK kvs (.inl r.1) (.int r.2)) (fset f r.1 (some r.2)) (fun r' m => hk r' (List.mem_cons_of_mem _ m)) (h.put (hk r List.mem_cons_self))
end
/-- the changes of an entry -/
def spChsOf (K : PySem.W.Frag) : Sp := fun vs H Q _ => ∃ (v : V) (d : PyData) (ks : List Int), vs = [v] ∧ Dp K H v d ∧ goodEn ks d = true ∧ ∀ (q : Addr) (us : List V) (H' : Hp), Ex H H' → SqT K H' q us → DpAll K H' us (chsD d) → Q (.ref q) H'
/-- a good log at l -/
structure LogAt (K : PySem.W.Frag) (H : Hp) (l : Addr) (ks : List Int) (ds : List PyData) : Prop where
  ex : ∃ us, SqL K H l us ∧ DpAll K H us ds
  good : ∀ d ∈ ds, goodEn ks d = true
theorem LogAt.same {K : PySem.W.Frag} {H H' : Hp} {l : Addr} {ks : List Int} {ds : List PyData} (h : LogAt K H l ks ds) (e : Same H H') : LogAt K H' l ks ds := ⟨let ⟨us, a, b⟩ := h.ex; ⟨us, Evl.ex_l e a, dps_same e _ _ b⟩, h.good⟩
/-- the entries from place lo up to place hi, done -/
def spCarry (K : PySem.W.Frag) : Sp := fun vs H Q _ => ∃ (D l : Addr) (ks : List Int) (kvs : List (Key × V)) (f : Int → Option Int) (ds : List PyData) (lo hi : Nat), vs = [.ref D, .ref l, .int (lo : Int), .int (hi : Int)] ∧ H D = some (.dK kvs) ∧ DI ks kvs f ∧ ks.length < 64 ∧ LogAt K H l ks ds ∧ lo ≤ hi ∧
  ∀ kvs' H', Bar D H H' → H' D = some (.dK kvs') → DI ks kvs' (appl f (lgD ((ds.drop lo).take (hi - lo)))) → Q .non H'
/-- the rows behind so many entries -/
def spRowsAt (K : PySem.W.Frag) : Sp := fun vs H Q _ => ∃ (v : V) (rs : List (Int × Int)) (l : Addr) (ks : List Int) (ds : List PyData) (n : Nat), vs = [v, .ref l, .int (n : Int)] ∧ Dp K H v (rowsD rs) ∧ (∀ r ∈ rs, r.1 ∈ ks) ∧ ks.length < 64 ∧ LogAt K H l ks ds ∧ n ≤ ds.length ∧
  ∀ D kvs H', H D = none → Ex H H' → H' D = some (.dK kvs) → DI ks kvs (appl (fRows rs) (lgD (ds.take n))) → Q (.ref D) H'
def spTabAt (K : PySem.W.Frag) : Sp := fun vs H Q _ => ∃ (v : V) (rs : List (Int × Int)) (l : Addr) (ks : List Int) (ds : List PyData) (n : Nat), vs = [v, .ref l, .int (n : Int)] ∧ Dp K H v (rowsD rs) ∧ (∀ r ∈ rs, r.1 ∈ ks) ∧ ks.length < 64 ∧ LogAt K H l ks ds ∧ n ≤ ds.length ∧
  ∀ p js H', H p = none → Ex H H' → KeysOf (appl (fRows rs) (lgD (ds.take n))) js → (∀ j ∈ js, j ∈ ks) → TP K H' p (rowsOf (appl (fRows rs) (lgD (ds.take n))) js) → Q (.ref p) H'
/-- a place that is one -/
def spPlace (K : PySem.W.Frag) : Sp := fun vs H Q _ => ∃ (l : Addr) (us : List V) (n : Nat), vs = [.ref l, .int (n : Int)] ∧ SqL K H l us ∧ n ≤ us.length ∧ ∀ H', Ex H H' → Q .non H'
/-- the keys told -/
def spChanged (K : PySem.W.Frag) : Sp := fun vs H Q _ => ∃ (l : Addr) (ks : List Int) (ds : List PyData) (lo hi : Nat), vs = [.ref l, .int (lo : Int), .int (hi : Int)] ∧ ks.length < 64 ∧ LogAt K H l ks ds ∧ lo ≤ hi ∧ hi ≤ ds.length ∧
  ∀ p (js : List Int) H', H p = none → Ex H H' → H' p = some (.lst (js.map V.int)) → js.Pairwise (· < ·) → (∀ k, k ∈ js ↔ ∃ c ∈ lgD ((ds.drop lo).take (hi - lo)), c.1 = k) → Q (.ref p) H'
end Tc
/-! tuples of leaves and tuples stay while a list is changed -/
namespace Tc
open PySem L2 Evl
def nl : Nat → PyData → Bool
  | _, .list _ => false
  | 0, .tuple _ => false
  | n + 1, .tuple ds => ds.all (nl n)
  | _, _ => true
section
variable {K : PySem.W.Frag} {H H' : Hp} {b : Addr} {bs : List V}
theorem lst_t {a : Addr} {xs : List V} (hb : H b = some (.lst bs)) (e : Bar b H H') (h : SqT K H a xs) : SqT K H' a xs := by
  rcases h with (h | ⟨o, h⟩) | h
  · exact .inl (.inl (e a _ (fun z => by
      subst z
      rw [hb] at h
      cases h) h))
  · exact .inl (.inr ⟨o, e a _ (fun z => by
      subst z
      rw [hb] at h
      cases h) h⟩)
  · exact .inr h
theorem lst_l {a : Addr} {xs : List V} (e : Bar b H H') (ha : a ≠ b) (h : SqL K H a xs) : SqL K H' a xs := by
  rcases h with (h | ⟨o, h⟩) | h
  · exact .inl (.inl (e a _ ha h))
  · exact .inl (.inr ⟨o, e a _ ha h⟩)
  · exact .inr h
theorem dps_each : ∀ {ds : List PyData} {vs : List V}, (∀ d ∈ ds, ∀ v, Dp K H v d → Dp K H' v d) → DpAll K H vs ds → DpAll K H' vs ds
  | _, _, _, .nil => .nil
  | _, _, f, .cons h t => .cons (f _ List.mem_cons_self _ h) (dps_each (fun d m => f d (List.mem_cons_of_mem _ m)) t)
theorem dp_nl (hb : H b = some (.lst bs)) (e : Bar b H H') : ∀ (n : Nat) (d : PyData) (v : V), nl n d = true → Dp K H v d → Dp K H' v d
  | 0, d, v, g, h => by
    cases h with
    | non => exact .non
    | bl b => exact .bl b
    | int i => exact .int i
    | str x => exact .str x
    | lst => cases g
    | tup => cases g
  | n + 1, d, v, g, h => by
    cases h with
    | non => exact .non
    | bl b => exact .bl b
    | int i => exact .int i
    | str x => exact .str x
    | lst => cases g
    | tup hs r => exact .tup (lst_t hb e hs) (dps_each (fun d m v => dp_nl hb e n d v (List.all_eq_true.mp g d m)) r)
theorem nl_rows (rs : List (Int × Int)) : nl 2 (rowsD rs) = true := by
  show (rs.map pairD).all (nl 1) = true
  rw [List.all_eq_true]
  intro d m
  obtain ⟨r, _, rfl⟩ := List.mem_map.mp m
  rfl
theorem nl_ch {ks : List Int} {d : PyData} (h : goodCh ks d = true) : nl 1 d = true := by
  unfold goodCh at h
  split at h
  · rfl
  · rfl
  · cases h
theorem nl_en {ks : List Int} {d : PyData} (h : goodEn ks d = true) : nl 3 d = true := by
  unfold goodEn at h
  split at h
  · rename_i s cs
    rw [Bool.and_eq_true, List.all_eq_true] at h
    show (nl 2 (.str s) && (nl 2 (.tuple cs) && true)) = true
    rw [show nl 2 (.tuple cs) = true from List.all_eq_true.mpr fun d m => nl_ch (h.2 d m)]
    rfl
  · rfl
  · cases h
theorem Fr.bar (f : Fr b H H') : Bar b H H' := fun a o n h => f.at h n
theorem LogAt.bar {l : Addr} {ks : List Int} {ds : List PyData} (h : LogAt K H l ks ds) (hb : H b = some (.lst bs)) (e : Bar b H H') (hl : l ≠ b) : LogAt K H' l ks ds :=
  ⟨let ⟨us, x, y⟩ := h.ex; ⟨us, lst_l e hl x, dps_each (fun d m v => dp_nl hb e 3 d v (nl_en (h.good d m))) y⟩, h.good⟩
theorem dp_rows {v : V} {rs : List (Int × Int)} (h : Dp K H v (rowsD rs)) (hb : H b = some (.lst bs)) (e : Bar b H H') : Dp K H' v (rowsD rs) := dp_nl hb e 2 _ v (nl_rows rs) h
theorem TP.bar {p : Addr} {rs : List (Int × Int)} (h : TP K H p rs) (hb : H b = some (.lst bs)) (e : Bar b H H') : TP K H' p rs := by
  obtain ⟨xs, ⟨o, a, d⟩, r⟩ := h
  exact ⟨xs, ⟨o, e p _ (fun z => by
    subst z
    rw [hb] at a
    cases a) a, d⟩, dps_each (fun d m v => dp_nl hb e 1 d v (by
      obtain ⟨r, _, rfl⟩ := List.mem_map.mp m
      rfl)) r⟩
theorem Bag.lst (h : Bag H b) : ∃ bs, H b = some (.lst bs) := let ⟨_, _, e, _⟩ := h; ⟨_, e⟩
end
/-- rows of a table drawn -/
def goodRow (ks : List Int) : PyData → Bool
  | .tuple [.int k, .int w] => decide (k ∈ ks) && decide (0 ≤ w ∧ w < 1000)
  | _ => false
theorem good_rows {ks : List Int} : ∀ {ds : List PyData}, (∀ d ∈ ds, goodRow ks d = true) → ∃ rs : List (Int × Int), ds = rs.map pairD ∧ (∀ r ∈ rs, r.1 ∈ ks) ∧ ∀ r ∈ rs, 0 ≤ r.2 ∧ r.2 < 1000
  | [], _ => ⟨[], rfl, fun r m => (by cases m), fun r m => by cases m⟩
  | d :: ds, h => by
    obtain ⟨rs, e, hr, hw⟩ := good_rows fun d' m => h d' (List.mem_cons_of_mem _ m)
    have hd := h d List.mem_cons_self
    unfold goodRow at hd
    split at hd
    · rename_i k w
      rw [Bool.and_eq_true] at hd
      refine ⟨(k, w) :: rs, by rw [e]; rfl, fun r m => ?_, fun r m => ?_⟩
      · rcases List.mem_cons.mp m with z | z
        · rw [z]
          exact of_decide_eq_true hd.1
        · exact hr r z
      · rcases List.mem_cons.mp m with z | z
        · rw [z]
          exact of_decide_eq_true hd.2
        · exact hw r z
    · cases hd
def spTabQ (K : PySem.W.Frag) : Sp := fun vs H Q _ => ∃ (b l : Addr) (ks : List Int), vs = [.ref b, .ref l] ∧ Bag H b ∧ KeysAt b H l ks ∧ ∀ v rs H', Fr b H H' → Dp K H' v (rowsD rs) → (∀ r ∈ rs, r.1 ∈ ks) → Q v H'
def spKeysQ : Sp := fun vs H Q _ => ∃ b : Addr, vs = [.ref b] ∧ Bag H b ∧ ∀ l (ks : List Int) H', Fr b H H' → KeysAt b H' l ks → ks.length < 64 → Q (.ref l) H'
/-- drawn changes, an entry, a log, their keys among ks -/
def spChsQ (K : PySem.W.Frag) : Sp := fun vs H Q _ => ∃ (b l : Addr) (ks : List Int) (m : Int) (S : Addr → Prop), vs = [.ref b, .ref l, .int m] ∧ Bag H b ∧ Sok S b H ∧ KeysAt b H l ks ∧ 1 ≤ m ∧ m ≤ 6 ∧
  ∀ v ds H', Fr b H H' → Dp K (cut S H') v (.tuple ds) → (∀ d ∈ ds, goodCh ks d = true) → Q v H'
def spEntQ (K : PySem.W.Frag) : Sp := fun vs H Q _ => ∃ (b l : Addr) (ks : List Int) (S : Addr → Prop), vs = [.ref b, .ref l] ∧ Bag H b ∧ Sok S b H ∧ KeysAt b H l ks ∧ ∀ v d H', Fr b H H' → Dp K (cut S H') v d → goodEn ks d = true → Q v H'
def spLgQ (K : PySem.W.Frag) : Sp := fun vs H Q _ => ∃ (b l : Addr) (ks : List Int) (m : Int), vs = [.ref b, .ref l, .int m] ∧ Bag H b ∧ KeysAt b H l ks ∧ 0 ≤ m ∧ m ≤ 100 ∧ ∀ p us ds H', H p = none → p ≠ b → Fr b H H' → H' p = some (.lst us) → DpAll K H' us ds → (∀ d ∈ ds, goodEn ks d = true) → (ds.length : Int) ≤ m → Q (.ref p) H'
theorem gq_drop {ks : List Int} {k : Int} (h : k ∈ ks) : goodCh ks (.tuple [.str "drop", .int k]) = true := by
  show (decide ((Str.ofString "drop") = "drop") && decide (k ∈ ks)) = true
  rw [decide_eq_true h]
  decide
theorem gq_put {ks : List Int} {k w : Int} (h : k ∈ ks) (hw : 0 ≤ w ∧ w < 1000) : goodCh ks (.tuple [.str "put", .int k, .int w]) = true := by
  show (decide ((Str.ofString "put") = "put") && (decide (k ∈ ks) && decide (0 ≤ w ∧ w < 1000))) = true
  rw [decide_eq_true h, decide_eq_true hw]
  decide
theorem gq_mark {ks : List Int} {s : Str} {i j : Int} (hs : s = "low" ∨ s = "high") : goodEn ks (.tuple [.str s, .int i, .int j]) = true := by
  show (!decide (s = "group") && PyData.strOk s) = true
  rcases hs with rfl | rfl <;> decide +kernel
theorem gq_group {ks : List Int} {ds : List PyData} (h : ∀ d ∈ ds, goodCh ks d = true) : goodEn ks (.tuple [.str "group", .tuple ds]) = true := by
  show (decide ((Str.ofString "group") = "group") && ds.all (goodCh ks)) = true
  rw [List.all_eq_true.mpr h]
  decide
end Tc
namespace Tc
open PySem L2 Evl
/-- no tuple stands at b -/
def NT (H : Hp) (b : Addr) : Prop := (∀ xs, H b ≠ some (.tup xs)) ∧ ∀ o u, H b ≠ some (.frz o u)
section
variable {K : PySem.W.Frag} {H H' : Hp} {b : Addr}
theorem NT.set {w : World} {S : Int → Bool} {n : Nat} (h : H b = some (SetO w b S n)) : NT H b := by
  refine ⟨fun xs e => ?_, fun o u e => ?_⟩ <;> · rw [h] at e
                                                 cases e
theorem nt_t {a : Addr} {xs : List V} (hb : NT H b) (e : Bar b H H') (h : SqT K H a xs) : SqT K H' a xs := by
  rcases h with (h | ⟨o, h⟩) | h
  · exact .inl (.inl (e a _ (fun z => hb.1 xs (z ▸ h)) h))
  · exact .inl (.inr ⟨o, e a _ (fun z => hb.2 o _ (z ▸ h)) h⟩)
  · exact .inr h
theorem dp_nt (hb : NT H b) (e : Bar b H H') : ∀ (n : Nat) (d : PyData) (v : V), nl n d = true → Dp K H v d → Dp K H' v d
  | 0, d, v, g, h => by
    cases h with
    | non => exact .non
    | bl b => exact .bl b
    | int i => exact .int i
    | str x => exact .str x
    | lst => cases g
    | tup => cases g
  | n + 1, d, v, g, h => by
    cases h with
    | non => exact .non
    | bl b => exact .bl b
    | int i => exact .int i
    | str x => exact .str x
    | lst => cases g
    | tup hs r => exact .tup (nt_t hb e hs) (dps_each (fun d m v => dp_nt hb e n d v (List.all_eq_true.mp g d m)) r)
/-- the turns of a clause, over whatever gives n items one by one and changes nothing by it -/
theorem sc_turns {J : It} {n : Nat} {H0 : Hp} {Z : Hp → Prop} {B : V → Hp → (Hp → Prop) → Prop} (Pv : Nat → Hp → Prop) (R : Nat → V → Prop) (h0 : Pv 0 H0) (go : ∀ i H, i < n → Pv i H → J.go i H ∧ ∀ x H', J.yld i H x H' → H' = H ∧ R i x) (stop : ∀ H, Pv n H → J.stop n H)
    (hs : ∀ i x H, R i x → Pv i H → B x H (Pv (i + 1))) (hd : ∀ H, Pv n H → Z H) :
    ∃ W : Nat → Nat → Hp → Prop, (∃ m, W 0 m H0) ∧ ∀ i m H, W i m H → (J.stop i H ∧ Z H) ∨ (J.go i H ∧ ∃ Nx : Hp → Prop, (∀ H', Nx H' → ∃ m', m' < m ∧ W (i + 1) m' H') ∧ ∀ x H', J.yld i H x H' → B x H' Nx) := by
  refine ⟨fun i m H => i + m = n ∧ Pv i H, ⟨n, Nat.zero_add n, h0⟩, fun i m H ⟨e, p⟩ => ?_⟩
  cases m with
  | zero =>
    obtain rfl : i = n := e
    exact .inl ⟨stop H p, hd H p⟩
  | succ m =>
    have ⟨g, y⟩ := go i H (by omega) p
    refine .inr ⟨g, Pv (i + 1), fun H' p' => ⟨m, Nat.lt_succ_self m, by omega, p'⟩, fun x H' yx => ?_⟩
    obtain ⟨rfl, r⟩ := y x H' yx
    exact hs i x _ r p
theorem sc_list {a : Addr} {xs : List V} {H0 : Hp} {Z : Hp → Prop} {B : V → Hp → (Hp → Prop) → Prop} (Pv : Nat → Hp → Prop) (h0 : Pv 0 H0) (hl : ∀ i H, i ≤ xs.length → Pv i H → SqL K H a xs) (hs : ∀ i x H, xs[i]? = some x → Pv i H → B x H (Pv (i + 1))) (hd : ∀ H, Pv xs.length H → Z H) :
    ∃ W : Nat → Nat → Hp → Prop, (∃ m, W 0 m H0) ∧ ∀ i m H, W i m H → ((Itl K a).stop i H ∧ Z H) ∨ ((Itl K a).go i H ∧ ∃ Nx : Hp → Prop, (∀ H', Nx H' → ∃ m', m' < m ∧ W (i + 1) m' H') ∧ ∀ x H', (Itl K a).yld i H x H' → B x H' Nx) :=
  sc_turns Pv (fun i x => xs[i]? = some x) h0 (fun i H lt p => ⟨⟨xs, xs[i], hl i H (Nat.le_of_lt lt) p, List.getElem?_eq_getElem lt⟩, fun x H' y => ⟨y.1, y.2 xs (hl i H (Nat.le_of_lt lt) p)⟩⟩) (fun H p => ⟨xs, hl _ H (Nat.le_refl _) p, Nat.le_refl _⟩) hs hd
theorem sc_tup {a : Addr} {xs : List V} {H0 : Hp} {Z : Hp → Prop} {B : V → Hp → (Hp → Prop) → Prop} (Pv : Nat → Hp → Prop) (h0 : Pv 0 H0) (hl : ∀ i H, i ≤ xs.length → Pv i H → SqT K H a xs) (hs : ∀ i x H, xs[i]? = some x → Pv i H → B x H (Pv (i + 1))) (hd : ∀ H, Pv xs.length H → Z H) :
    ∃ W : Nat → Nat → Hp → Prop, (∃ m, W 0 m H0) ∧ ∀ i m H, W i m H → ((Itt K a).stop i H ∧ Z H) ∨ ((Itt K a).go i H ∧ ∃ Nx : Hp → Prop, (∀ H', Nx H' → ∃ m', m' < m ∧ W (i + 1) m' H') ∧ ∀ x H', (Itt K a).yld i H x H' → B x H' Nx) :=
  sc_turns Pv (fun i x => xs[i]? = some x) h0 (fun i H lt p => ⟨⟨xs, xs[i], hl i H (Nat.le_of_lt lt) p, List.getElem?_eq_getElem lt⟩, fun x H' y => ⟨y.1, y.2 xs (hl i H (Nat.le_of_lt lt) p)⟩⟩) (fun H p => ⟨xs, hl _ H (Nat.le_refl _) p, Nat.le_refl _⟩) hs hd
end
/-- a set that holds the ints of l, each once -/
def Has (w : World) (D : Addr) (H : Hp) (l : List Int) : Prop := H D = some (SetO w D (fun j => decide (j ∈ l)) l.length) ∧ l.Nodup
theorem Has.more {w : World} {D : Addr} {H : Hp} {l : List Int} (h : Has w D H l) (k : Int) : ∃ l', (∀ j, j ∈ l' ↔ j ∈ l ∨ j = k) ∧ ∀ H', Has w D (upd H' D (setMore w D (fun j => decide (j ∈ l)) l.length k)) l' := by
  by_cases m : k ∈ l
  · refine ⟨l, fun j => ⟨.inl, fun z => z.elim id fun e => e ▸ m⟩, fun H' => ⟨?_, h.2⟩⟩
    rw [upd_same]
    have e1 : (fun j => decide (j ∈ l) || decide (j = k)) = fun j => decide (j ∈ l) := by
      funext j
      by_cases z : j = k
      · subst z
        simp [m]
      · simp [z]
    unfold setMore
    rw [e1, if_pos (decide_eq_true m)]
  · refine ⟨k :: l, fun j => by rw [List.mem_cons]; exact Or.comm, fun H' => ⟨?_, List.nodup_cons.mpr ⟨m, h.2⟩⟩⟩
    rw [upd_same]
    have e1 : (fun j => decide (j ∈ l) || decide (j = k)) = fun j => decide (j ∈ k :: l) := by
      funext j
      rw [Bool.eq_iff_iff, Bool.or_eq_true, decide_eq_true_eq, decide_eq_true_eq, decide_eq_true_eq, List.mem_cons]
      exact Or.comm
    unfold setMore
    rw [e1, if_neg (by simp [m]), List.length_cons]
end Tc
/-! enumerate(tuple), enumerate(tuple, start=k) -/
namespace Tc
open PySem PySem.Spec PyProof.Rows L2
/-- the tuple at a, each item in a new pair with its number, from k on -/
def Itc (K : PySem.W.Frag) (a : Addr) (k : Int) : It :=
  ⟨fun i H => ∃ (xs : List V) (x : V), SqT K H a xs ∧ xs[i]? = some x, fun i H v H' => ∃ (T : Addr) (x : V), v = .ref T ∧ H T = none ∧ H' = upd H T (.tup [.int (k + (i : Int)), x]) ∧ ∀ xs, SqT K H a xs → xs[i]? = some x,
    fun i H => ∃ xs : List V, SqT K H a xs ∧ xs.length = i⟩
/-- how the counter at e and the tuple's iterator at it stand -/
def Cnt (a e it : Addr) (k : Int) (i : Nat) (h : Heap) : Prop := (∃ old, IsEnum h e it (k + (i : Int)) old) ∧ h.IsTupleIter it a i ∧ e ≠ it
theorem Cnt.apart {a e it : Addr} {k : Int} {i : Nat} {h : Heap} {items : Array Value} (c : Cnt a e it k i h) (t : IsTup h a items) : a ≠ it ∧ e ∉ [it, a] := by
  obtain ⟨⟨old, he⟩, ⟨o, ho, hc, _⟩, ne⟩ := c
  obtain ⟨p, hp, pc, _⟩ := t
  refine ⟨fun z => ?_, fun m => ?_⟩
  · subst z
    cases hp.symm.trans ho
    rw [pc] at hc
    exact absurd hc (by decide)
  · rcases List.mem_cons.mp m with z | z
    · exact ne z
    · obtain rfl := List.mem_singleton.mp z
      cases hp.symm.trans he
      exact absurd (show Value.type "enumerate" = Value.type "tuple" from pc) (by decide)
theorem turn_count {P : Program} {w : World} {K : PySem.W.Frag} {elts : List Expr} {kk : Nat} {tpos : Pos} (a e it : Addr) (k : Int) : Turn P w K (.Tuple elts kk tpos) (Itc K a k) [e, it] e (Cnt a e it k) where
  mem := List.mem_cons_self
  obj := fun i h ⟨⟨old, he⟩, ⟨o, ho, _, hd⟩, _⟩ b m => by
    rcases List.mem_cons.mp m with rfl | m
    · exact ⟨_, he, fun v z => nomatch z⟩
    · obtain rfl := List.mem_singleton.mp m
      exact ⟨o, ho, fun v z => by rw [hd] at z; cases z⟩
  keep := fun i h h' ⟨⟨old, he⟩, hi, ne⟩ kp => ⟨⟨old, kp e (by simp) _ he⟩, hi.at fun o z => kp it (by simp) o z, ne⟩
  item := by
    intro X hP hw hK hc i pins s σ H E I fp c ⟨xs, x, hq, hx⟩
    subst hP hw hK
    obtain ⟨its, rv, tup, _⟩ := I.tuple hq
    obtain ⟨u, hu, ru⟩ := rv.get hx
    have ⟨ai, ef⟩ := c.apart tup
    obtain ⟨⟨old, he⟩, hit, ne⟩ := id c
    have lt : i < its.toArray.size := by
      have := (List.getElem?_eq_some_iff.mp hu).1
      simpa using this
    have le : e < s.heap.objs.size := Heap.lt_size he
    have li : it < s.heap.objs.size := let ⟨_, z, _⟩ := hit; Heap.lt_size z
    refine wpAny_pyNext_enum_itemC (Draws.tuple (A := X.A.in1) (I.ok.hd hc) it a ai its.toArray) he ⟨hit, tup⟩ lt ne ef fun y h' tk hy out st new size kp => ⟨_, rfl, ?_⟩
    obtain rfl : u = y := Option.some.inj (hu.symm.trans (by simpa using hy))
    refine wpAny_letOwnedTupleGo_enum (s := { s with heap := h', toks := tk + 1 }) out fun h'' he' but => ?_
    have new2 := (but.2 _ (Nat.ne_of_gt le)).trans new
    have inv : Inv X pins σ (upd H s.heap.objs.size (.tup [.int (k + (i : Int)), x])) { s with heap := h'', toks := tk + 1 } :=
      I.turnedNew (ch := [e, it]) (fun b o n z => (but.2 b fun q => n (by simp [q])).trans (kp b o (fun q => n (by simp [q])) (fun q => n (by simp [q])) z)) fp (Nat.le_refl _) ⟨by show 2 ≤ sizeLine; decide, [.int (k + (i : Int)) tk, u], .cons ⟨_, rfl⟩ (.cons ru .nil), ⟨_, new2, rfl, _, rfl⟩⟩
    refine ⟨.ref s.heap.objs.size, _, inv, rfl, ⟨_, x, rfl, I.hok.fresh (Nat.le_refl _), rfl, fun ys hy => I.tuple_inj hy hq ▸ hx⟩, ⟨⟨u, ?_⟩, st.1.at fun o z => (but.2 it (Ne.symm ne)).trans z, ne⟩, fun b m => ?_⟩
    · rw [show k + ((i + 1 : Nat) : Int) = k + (i : Int) + 1 by omega]
      exact he'
    · have lb : b < s.heap.objs.size := by
        rcases List.mem_cons.mp m with rfl | m
        · exact le
        · exact List.mem_singleton.mp m ▸ li
      exact (upd_ne (Nat.ne_of_lt lb)).trans (fp b m).1
  done := by
    intro X hP hw hK hc i pins s σ H E I fp c ⟨xs, hq, hl⟩
    subst hP hw hK
    obtain ⟨its, rv, tup, _⟩ := I.tuple hq
    obtain ⟨g0, g1, g2, g3, g4, g5⟩ := fp it (by simp)
    have n : its.toArray.size = i := by rw [List.size_toArray, ← rv.length]; exact hl
    refine wpAny_pyNext_enum_endD (Draws.tuple (A := X.A.in1) (I.ok.hd hc) it a (c.apart tup).1 its.toArray) c.1.choose_spec ⟨n.symm ▸ c.2.1, tup⟩ fun h' but => ⟨rfl, I.turned (t' := s.toks) (fun b o nb z => but b o nb z) g0 g1 g3 g4 g5⟩
  self := fun A i s Q E ⟨⟨_, he⟩, _⟩ h => wpAny_pyIter_enum he h
section
variable {M : Model} {A : Around} {E : Value → Shared → Prop} {s : Shared} {env : Env}
/-- a built-in class called with one thing and more by their names -/
theorem type_kw {pos : Pos} {T : String} {x : Expr} {kws : List Keyword} {Q : Value → Shared → Prop} (one : backTo pos (starEach [x] env) = (false, eval x env) :: backTo pos (starEach [] env)) (named : (backToKw pos (keywordEach kws env)).all (·.1.isSome) = true) (no : (backToKw pos (keywordEach kws env)).any (·.1.isNone) = false)
    (plain : (backTo pos (starEach [x] env)).any (·.1) = false) (h : wpAny M A (spliced (backTo pos (starEach [x] env))) (fun vs s1 => wpAny M A (evalAll ((backToKw pos (keywordEach kws env)).map (·.2))) (fun ws s2 => wpAny M A (call (.type T) vs (((backToKw pos (keywordEach kws env)).filterMap (·.1)).zip ws)) Q E s2) E s1) E s) :
    wpAny M A (callWith pos (.type T) [] (backTo pos (starEach [x] env)) (backToKw pos (keywordEach kws env))) Q E s := by
  have args : wpAny M A (evalArgs (.type T) true (backTo pos (starEach [x] env)) (backToKw pos (keywordEach kws env))) (fun a s1 => wpAny M A (call (.type T) a.pos a.kw) Q E s1) E s := by
    rw [one] at h ⊢
    exact evalArgs_kwB named h
  unfold callWith
  refine wpAny_bind (wpAny_holding (wpAny_mono args (fun a s1 h1 => wpAny_bind (wpAny_standAt ?_)) fun _ _ z => z))
  simp only [plain, no, Bool.or_false]
  refine wpAny_bind (wpAny_pure ?_)
  exact wpAny_bind (wpAny_mono (show wpAny M A (call (.type T) ([] ++ a.pos) a.kw) Q E s1 from h1) (fun r s2 done => wpAny_bind (wpAny_holding (wpAny_point (wpAny_pure done)))) fun _ _ z => z)
end
section
variable {X : Cx} {e : Expr} {ta tk : TA} {p pos tpos : Pos} {elts : List Expr} {kk : Nat} {kws : List Keyword}
/-- what stands behind the making of a counter -/
theorem count_on {pins : List (Addr × Obj)} {σ : L2.St} {H : Hp} {s : Shared} {R : It → Hp → Prop} {a : Addr} {k : Int} {h' : Heap} (I : Inv X pins σ H s) (he : IsEnum h' (s.heap.objs.size + 1) s.heap.objs.size k .none)
    (hit : h'.get? s.heap.objs.size = some { cls := .type "tuple_iterator", data := .fields #[.ref a, .int 0 0] }) (keep : ∀ b o, s.heap.get? b = some o → h'.get? b = some o) (q : R (Itc X.K a k) H) :
    wpAny (model X.prog X.w) X.A (pyIter (.ref (s.heap.objs.size + 1))) (PIE X pins σ (.Tuple elts kk tpos) R) X.xe { s with heap := h' } := by
  refine wpAny_pyIter_enum he ⟨_, [s.heap.objs.size + 1, s.heap.objs.size], _, _, H, rfl, I.kept (t' := s.toks) keep, turn_count a _ _ k, ⟨⟨.none, ?_⟩, ⟨_, hit, rfl, rfl⟩, Nat.succ_ne_self _⟩, fun b m => ?_, q⟩
  · rw [show k + ((0 : Nat) : Int) = k from Int.add_zero k]
    exact he
  · have far : s.heap.objs.size ≤ b := by
      rcases List.mem_cons.mp m with rfl | m
      · exact Nat.le_succ _
      · exact Nat.le_of_eq (List.mem_singleton.mp m).symm
    exact I.fpOk far (I.hok.fresh far)
def iCountK (K : PySem.W.Frag) (ta tk : TA) : TI := fun σ H R => ta σ H fun vs H1 => tk σ H1 fun zs H2 => ∃ (a : Addr) (xs : List V) (k : Int), vs = [.ref a] ∧ zs = [.int k] ∧ SqT K H2 a xs ∧ -1000000 ≤ k ∧ k ≤ 1000000 ∧ R (Itc K a k) H2
/-- for n, x in enumerate(tuple, start=k) -/
theorem pi_countK (hg : Gl X "enumerate") (hm : X.mg "enumerate" = none) (ha : PA X [e] ta) (hk : PK X kws tk) (hks : (backToKw pos (keywordEach kws X.env)).filterMap (·.1) = [Str.ofString "start"] := by rfl) (hall : (backToKw pos (keywordEach kws X.env)).all (·.1.isSome) = true := by rfl)
    (hnone : (backToKw pos (keywordEach kws X.env)).any (·.1.isNone) = false := by rfl) (hs : backTo pos (starEach [e] X.env) = (false, eval e X.env) :: backTo pos (starEach [] X.env) := by rfl) (hpl : (backTo pos (starEach [e] X.env)).any (·.1) = false := by rfl) :
    PI X (.Tuple elts kk tpos) (.Call (.Name "enumerate" p) [e] kws pos) (iCountK X.K ta tk) := by
  have n1 : (Str.ofString "enumerate") ≠ "__name__" := by decide
  have n2 : (Str.ofString "enumerate" == ("__debug__" : Str)) = false := by decide
  refine ⟨fun pins s σ H R I h => ?_⟩
  refine wpAny_Call_Name_kw ?_
  refine ld_blt I hg hm boot_enumerate ?_ n1 n2
  refine type_kw hs hall hnone hpl (thn (ha.run pos pins s σ H (fun vs H1 => tk σ H1 fun zs H2 => ∃ (a : Addr) (xs : List V) (k : Int), vs = [.ref a] ∧ zs = [.int k] ∧ SqT X.K H2 a xs ∧ -1000000 ≤ k ∧ k ≤ 1000000 ∧ R (Itc X.K a k) H2) I h) fun us s1 c1 => ?_)
  obtain ⟨vs, H1, I1, r1, q1⟩ := c1
  refine thn (hk.run pos pins s1 σ H1 _ I1 q1) fun ws s2 c2 => ?_
  obtain ⟨zs, H2, I2, r2, q2⟩ := c2
  obtain ⟨a, xs, k, e1, e2, hq, k0, k1, q⟩ := q2
  subst e1 e2
  rw [hks, Vals.ref1 r1]
  obtain ⟨u, rfl, ru⟩ := vals1 r2
  obtain ⟨t, rfl⟩ := ru
  obtain ⟨its, _, tup, _⟩ := I2.tuple hq
  exact enum_begins_start (begins_tuple a its.toArray) tup (by omega) (by omega) fun h' he hit _ keep => count_on I2 he hit keep q
end
end Tc
/-! enumerate(tuple) from 0 -/
namespace Tc
open PySem PySem.Spec PyProof.Rows L2
set_option maxHeartbeats 2000000 in
theorem new_count (t : Addr) (items : Array Value) :
    Meets (Builtin.«enumerate.__new__» ⟨[.type "enumerate", .ref t], []⟩) (fun _ R s => s.heap.IsTuple t items ∧ R (.ok (.ret (.ref (s.heap.objs.size + 1))))
      { s with heap := (s.heap.push { cls := .type "tuple_iterator", data := .fields #[.ref t, .int 0 0] }).push { cls := .type "enumerate", data := .fields #[.none, .bool false, .ref s.heap.objs.size, rawInt 0, .none, .none] } }) :=
  .of_wp fun prog w A R s ⟨tup, fin⟩ => by
    have size : (s.heap.push { cls := .type "tuple_iterator", data := .fields #[.ref t, .int 0 0] }).objs.size = s.heap.objs.size + 1 := Heap.size_push ..
    rw [← size] at fin
    obtain ⟨hp, g, d, tk, os⟩ := s
    have own := sub_enumerate
    have iter : ∀ {A : Around} {E : Value → Shared → Prop} {Q : Value → Shared → Prop}, Q (.ref hp.objs.size) ⟨hp.push { cls := .type "tuple_iterator", data := .fields #[.ref t, .int 0 0] }, g, d, tk, os⟩ → wpAny (model prog w) A (pyIter (.ref t)) Q E ⟨hp, g, d, tk, os⟩ := fun q => (begins_tuple t items).iter _ _ _ _ ⟨hp, g, d, tk, os⟩ _ tup q
    wp_walk using iter
    refine wpAny_stack_any fun st => wpAny_pure ?_
    split
    · rename_i c _ _ _ _ _
      cases (c == Value.type "enumerate") <;> (wp_walk using iter; exact ⟨_, rfl, fin⟩)
    · wp_walk using iter
      exact ⟨_, rfl, fin⟩
theorem call_count {prog : Program} {w : World} {A : Around} {E : Value → Shared → Prop} {s : Shared} {t : Addr} {items : Array Value} {Q : Value → Shared → Prop} (tup : s.heap.IsTuple t items)
    (fin : ∀ h', IsEnum h' (s.heap.objs.size + 1) s.heap.objs.size 0 .none → h'.get? s.heap.objs.size = some { cls := .type "tuple_iterator", data := .fields #[.ref t, .int 0 0] } → (∀ b o, s.heap.get? b = some o → h'.get? b = some o) → Q (.ref (s.heap.objs.size + 1)) { s with heap := h' }) :
    wpAny (model prog w) A (call (.type "enumerate") [.ref t]) Q E s := by
  refine callType_new F.called_enumerate (by decide) (F.typeCall_enumerate_1 _) (F.newCall_enumerate_1 _) (fun obj => F.args_object_init_2 obj _) F.entry_enumerate_new (new_count t items) ⟨tup, ?_⟩
  have size : (s.heap.push { cls := .type "tuple_iterator", data := .fields #[.ref t, .int 0 0] }).objs.size = s.heap.objs.size + 1 := Heap.size_push ..
  generalize hp : s.heap.push { cls := .type "tuple_iterator", data := .fields #[.ref t, .int 0 0] } = h1 at size
  have made : IsEnum (h1.push { cls := .type "enumerate", data := .fields #[.none, .bool false, .ref s.heap.objs.size, rawInt 0, .none, .none] }) (s.heap.objs.size + 1) s.heap.objs.size 0 .none := size ▸ Heap.get?_push_size _ rfl
  exact ⟨⟨_, made, rfl⟩, fin _ made (Heap.get?_push_of_some _ (hp ▸ Heap.get?_push_size _ rfl)) fun b o z => Heap.get?_push_of_some _ (hp ▸ Heap.get?_push_of_some _ z)⟩
section
variable {X : Cx} {e : Expr} {ta : TA} {p pos tpos : Pos} {elts : List Expr} {kk : Nat}
def iCount (K : PySem.W.Frag) (ta : TA) : TI := fun σ H R => ta σ H fun vs H1 => ∃ (a : Addr) (xs : List V), vs = [.ref a] ∧ SqT K H1 a xs ∧ R (Itc K a 0) H1
/-- for n, x in enumerate(tuple) -/
theorem pi_count (hg : Gl X "enumerate") (hm : X.mg "enumerate" = none) (ha : PA X [e] ta) (hs : starEach [e] X.env = [(false, eval e X.env)] := by rfl) : PI X (.Tuple elts kk tpos) (.Call (.Name "enumerate" p) [e] [] pos) (iCount X.K ta) := by
  refine ⟨fun pins s σ H R I h => Call_ (ld_blt I hg hm boot_enumerate (callWith_type1 (thn (ha.run pos pins s σ H _ I h) fun us s1 c1 => ?_) hs rfl))⟩
  obtain ⟨vs, H1, I1, r1, a, xs, e1, hq, q⟩ := c1
  subst e1
  rw [Vals.ref1 r1]
  obtain ⟨its, _, tup, _⟩ := I1.tuple hq
  exact call_count tup fun h' he hit keep => count_on I1 he hit keep q
end
end Tc
/-! sorted(tuple of ints) -/
namespace Tc
open PySem PySem.Spec PyProof.Rows L2
def rSortedTI (K : PySem.W.Frag) : List V → Hp → VK → Prop := fun vs H Q => ∃ (a : Addr) (ns : List Int), vs = [V.ref a] ∧ SqT K H a (ns.map V.int) ∧ ∀ (ms : List Int) (p : Addr), ms.Perm ns → ms.Pairwise (· ≤ ·) → H p = none → Q (.ref p) (upd H p (.lst (ms.map V.int)))
set_option maxHeartbeats 4000000 in
theorem cr_sortedTI {X : Cx} : CallR X (.builtin "sorted") (rSortedTI X.K) := by
  intro pins s σ H vs us Q I r ⟨a, ns, e0, hs, q⟩
  subst e0
  rw [Vals.ref1 r]
  obtain ⟨its, rv, ⟨ob, at1, cls, n, dat⟩, fits⟩ := I.tuple hs
  have are := rv.ints
  have size : its.length ≤ sizeLine := rv.length ▸ fits
  refine Calls.call_function_entry kind_sorted plain_sorted entry_sorted (args_sorted1 _) (show wpAny _ _ (Builtin.«sorted» _) _ _ _ from ?_)
  refine wpAny_bind (m := checkCount "sorted" 1 1 _) (wpAny_pure (wpAny_bind (wpAny_collect_seq a (.inr rfl) at1 cls dat (fun g keep => ?_) (by rw [List.size_toArray]; exact size))))
  rw [show its.toArray.toList = its by simp]
  have kept := I.kept (h' := g) (t' := s.toks) keep
  refine wpAny_bind (wpAny_newList ?_ size)
  generalize hL : g.push (seqObj "list" its.toArray 0) = L
  have new : L.get? g.objs.size = some (seqObj "list" its.toArray 0) := hL ▸ Heap.get?_push_size _ rfl
  refine wpAny_bind (wpAny_holding (wpAny_call_entry slot_list_sort ⟨_, new, rfl⟩ entry_list_sort (SrtO.list_sort_ord SrtO.swo_int new size (fun lt => SrtO.ints_sortable are lt) fun out o1 o2 => ⟨_, rfl, ?_⟩) (args_list_sort _)))
  obtain ⟨r1, r2, r3⟩ := SrtO.ints_out are o1 o2
  have ⟨c, at2⟩ := sortedHeap_at (vs := its) (out := out.toArray) new
  have few : ((out.map SrtO.iv).map V.int).length ≤ sizeLine := by
    rw [List.length_map, r2.length_eq]
    rw [List.length_map] at fits
    exact fits
  refine wpAny_pure ⟨_, rfl, .ref g.objs.size, upd H g.objs.size (.lst ((out.map SrtO.iv).map V.int)), kept.laid (t' := s.toks) (fun b u e => ?_) (Nat.le_refl _) ⟨few, out, c, vals_of_ints r1, at2⟩, rfl, q _ _ r2 r3 (kept.hok.fresh (Nat.le_refl _))⟩
  have lt := Heap.lt_size e
  show (sortedHeap L g.objs.size its out.toArray).get? b = some u
  rw [sortedHeap_old (Nat.ne_of_lt lt) (hL ▸ size_push' g _ ▸ Nat.lt_succ_of_lt lt), ← hL]
  exact Heap.get?_push_of_some _ e
end Tc
/-! sorted(dict of int keys), of any number -/
namespace Tc
open PySem PySem.Spec PyProof.Rows L2
def rSortedDA : List V → Hp → VK → Prop := fun vs H Q => ∃ (a : Addr) (kvs : List (Key × V)) (ks : List Int), vs = [V.ref a] ∧ Rd H a (.dK kvs) ∧ kvs.map (·.1) = ks.map Sum.inl ∧ ∀ (ms : List Int) (p : Addr), ms.Perm ks → ms.Pairwise (· ≤ ·) → H p = none → Q (.ref p) (upd H p (.lst (ms.map V.int)))
set_option maxHeartbeats 4000000 in
theorem cr_sortedDA {X : Cx} (hc : X.calm = true) : CallR X (.builtin "sorted") rSortedDA := by
  intro pins s σ H vs us Q I r ⟨a, kvs, ks, e0, hd, hks, q⟩
  subst e0
  rw [Vals.ref1 r]
  obtain ⟨fits, lo, prs, rel, dd⟩ := dk_rd I.hok hd
  obtain ⟨ep, hat⟩ := dd.dictAt
  have keys : prs.map (·.1) = ks.map Sum.inl := rel.keys.symm.trans hks
  have many : prs.length = ks.length := by simpa using congrArg List.length keys
  have size : prs.length ≤ sizeLine := by
    have e := congrArg List.length hks
    rw [List.length_map] at e
    rw [List.length_map] at e
    rw [many, ← e]
    exact fits
  refine Calls.call_function_entry kind_sorted plain_sorted entry_sorted (args_sorted1 _) (show wpAny _ _ (Builtin.«sorted» _) _ _ _ from ?_)
  refine wpAny_bind (m := checkCount "sorted" 1 1 _) (wpAny_pure (wpAny_bind (PySem.W.kdu_collect (A := X.A.in1) (PySem.W.kdl_dict (knd := mixKind X.prog X.w) (kvs := prs) (ep := ep) lo) (I.ok.hd hc) hat size fun g tk acc keep items => ?_)))
  have al : acc.toList.length = ks.length := by rw [Array.length_toList, items.1, many]
  have are : IntsAre acc.toList ks := ints_each al fun j v e => by
    obtain ⟨k, x, e1, e2⟩ := items.2 j v (by rw [← Array.getElem?_toList]; exact e)
    have e3 : (ks.map (Sum.inl : Int → Key))[j]? = some k := by rw [← keys, List.getElem?_map, e1]; rfl
    rw [List.getElem?_map] at e3
    obtain ⟨y, e4, e5⟩ := Option.map_eq_some_iff.mp e3
    subst e5
    have sh := keyIs_shape (show keyIs (Sum.inl y) v = true from e2)
    rcases sh with ⟨i, t, ek, ev⟩ | ⟨z, t, ek, ev⟩
    · cases ek
      exact ⟨y, t, e4, ev⟩
    · cases ek
  have kept : Inv X pins σ H { s with heap := g, toks := tk } := I.kept keep
  have size2 : acc.toList.length ≤ sizeLine := by rw [al, ← many]; exact size
  refine wpAny_bind (wpAny_newList ?_ size2)
  generalize hL : g.push (seqObj "list" acc.toList.toArray 0) = L
  have new : L.get? g.objs.size = some (seqObj "list" acc.toList.toArray 0) := hL ▸ Heap.get?_push_size _ rfl
  show wpAny _ _ _ _ _ { s with heap := L, toks := tk }
  refine wpAny_bind (wpAny_holding (wpAny_call_entry slot_list_sort ⟨_, new, rfl⟩ entry_list_sort (SrtO.list_sort_ord SrtO.swo_int new size2 (fun lt => SrtO.ints_sortable are lt) fun out o1 o2 => ⟨_, rfl, ?_⟩) (args_list_sort _)))
  obtain ⟨r1, r2, r3⟩ := SrtO.ints_out are o1 o2
  have ⟨c, at2⟩ := sortedHeap_at (vs := acc.toList) (out := out.toArray) new
  have few : ((out.map SrtO.iv).map V.int).length ≤ sizeLine := by
    rw [List.length_map, r2.length_eq, ← al]
    exact size2
  refine wpAny_pure ⟨_, rfl, .ref g.objs.size, upd H g.objs.size (.lst ((out.map SrtO.iv).map V.int)), kept.laid (t' := tk) (fun b u e => ?_) (Nat.le_refl _) ⟨few, out, c, vals_of_ints r1, at2⟩, rfl, q _ _ r2 r3 (kept.hok.fresh (Nat.le_refl _))⟩
  have lt := Heap.lt_size e
  show (sortedHeap L g.objs.size acc.toList out.toArray).get? b = some u
  rw [sortedHeap_old (Nat.ne_of_lt lt) (hL ▸ size_push' g _ ▸ Nat.lt_succ_of_lt lt), ← hL]
  exact Heap.get?_push_of_some _ e
end Tc
/-! an exception's own __init__ that says super().__init__(..) -/
namespace Tc
open PySem PySem.Spec PyProof.Rows L2
section
variable {X : Cx} {pins : List (Addr × Obj)} {σ : L2.St} {H : Hp} {s : Shared} {A : Around} {E : Value → Shared → Prop} {a C u : Addr}
/-- the bound ValueError.__init__ called: nothing of it is told -/
theorem wrap_call {us : List Value} {Q : Value → Shared → Prop} (T : OexC X.K C) (I : Inv X pins σ H s) (e : H a = some (exo a C none)) (hu : s.heap.get? u = some (PySem.W.kxs_mw "ValueError.__init__" a)) (hl : us.length ≤ sizeLine) (h : ∀ s', Inv X pins σ H s' → Q .none s') :
    wpAny (model X.prog X.w) A (call (.ref u) us) Q E s := by
  obtain ⟨cn, cq, cN, cb, cm, c1, c2, c3, c4, c5, j0, j1, j2, j3, j5, hC, hbm⟩ := T.cls
  obtain ⟨t1, ho⟩ := exo_at I.hok e
  obtain ⟨hp, g, d, t, os⟩ := s
  have fin : ∀ h', (∀ b o, b ≠ a → hp.get? b = some o → h'.get? b = some o) → h'.get? a = some (PySem.W.excObj C hp.objs.size none .none) → Q .none ⟨h', g, d, t, os⟩ := fun h' k hx => by
    have J := I.write (x := a) (e := a) (o := exo a C none) (t' := t) (e ▸ True.intro) (.inl rfl) k ⟨_, hx⟩ (exo_ok hx)
    have still : upd H a (exo a C none) = H := by
      funext b
      by_cases hb : b = a
      · rw [hb, upd_same, e]
      · rw [upd_ne hb]
    rw [still] at J
    exact h _ J
  refine wpAny_call (codeAny_of_tree (show wpAny _ A.in1 (callAny (.ref u) ⟨us, []⟩) _ _ _ from ?_))
  simp only [callAny]
  refine wpAny_bind (wpAny_load hu ?_)
  have w1 : (Value.type "method-wrapper" == Value.type "method" || Value.type "method-wrapper" == Value.type "builtin_function_or_method" || Value.type "method-wrapper" == Value.type "method-wrapper") = true := by decide
  simp only [PySem.W.kxs_mw, w1, if_true]
  refine PySem.W.KFB.if_so (by decide) (wpAny_bind (PySem.W.check_bound_init PySem.F.excBase_ValueError.toExcCallFacts (I.kIn _ _ hC) ho rfl (wpAny_bind (wpAny_pure (wpAny_pure ⟨plainId_quiet PySem.F.excBase_ValueError.init.plain _, codeAny_builtin PySem.F.excBase_ValueError.initEntry ?_⟩)))))
  exact PySem.W.exc_init_tree (cls := .ref C) (t0 := t1) (dv := none) (c2 := .none) (c3 := .none) (b4 := .bool false) ho hl fun h' k hx _ => fin h' k hx
end
end Tc
namespace Tc
open PySem PySem.Spec PyProof.Rows L2
/-- a bound __init__, as it stands for a moment -/
def mwO (u a : Addr) : HO := .ext fun h => h.get? u = some (PySem.W.kxs_mw "ValueError.__init__" a)
/-- what is known of the def, its code, its class -/
structure SupX (X : Cx) (C f cc cda : Addr) (me : Str) : Prop where
  ks : Gl X "super"
  kc : X.env.kindOf "__class__" = some .free
  fu : X.env.func = some f
  co : X.env.code = .ref cda
  fn : ∃ (of : Obj) (fd : FuncData) (ar : Arg), X.K.lookup f = some of ∧ of.data = .func fd ∧ (fd.params.posonlyargs ++ fd.params.args).head? = some ar ∧ ar.arg = me
  cd : ∃ (oc : Obj) (vs : Array Value) (file : Str) (tf : Tok), X.K.lookup cda = some oc ∧ oc.data = .fields vs ∧ vs[2]? = some (.str file tf) ∧ ((X.prog.main.file : Str) == file) = true
  top : (X.prog.main.scope.names.lookup ("super" : Str)).isSome = false
  mg : X.mg "super" = none
  ce : X.env.cells.lookup ("__class__" : Str) = some cc
  cv : ∃ ol : Obj, X.K.lookup cc = some ol ∧ ol.data = .cell (some (.ref C))
  lo : X.env.scope.names.lookup me = some .local
  cl : ∃ cdC : ClassData, PySem.W.clsIn X.K C = some cdC
  mr : PySem.W.mroIn X.K C (.ref C) = some true
  op : PySem.W.nsIn X.K cStatics "thirdparty.any" = some none
  su : PySem.W.ks_superIn X.K C C "__init__" = some (some (.builtin "ValueError.__init__"))
  ve : PySem.W.subIn X.K (.ref C) (.type "ValueError") = some true
theorem mwO_ok {P : Program} {w : World} {H : Hp} {h : Heap} {u a : Addr} (hu : h.get? u = some (PySem.W.kxs_mw "ValueError.__init__" a)) : ObjOk P w H h u (mwO u a) := ⟨hu, ⟨_, hu⟩, fun h1 h2 z k => k _ z⟩
theorem boot_sup : bootBuiltins "super" = some (.type "super") := PyProof.Rows.Boot.«super»
section
variable {X : Cx} {pins : List (Addr × Obj)} {σ : L2.St} {H : Hp} {s : Shared} {a C f cc cda : Addr} {me : Str}
set_option maxHeartbeats 2000000 in
/-- super().__init__(e) -/
theorem sup_init {body : List Stmt} {p0 p1 p2 pos : Pos} {e : Expr} {ta : TA} {i : Nat} {Q : VK} (Z : SupX X C f cc cda me) (T : OexC X.K C) (I : Inv X pins σ H s) (ea : H a = some (exo a C none)) (hi : X.N[i]? = some me) (hs : σ[i]? = some (some (.ref a))) (ha : PA X [e] ta)
    (hta : ∀ u, H u = none → ta σ (upd H u (mwO u a)) fun vs H1 => H1 = upd H u (mwO u a) ∧ vs.length ≤ 1000 ∧ Q .non H1)
    {pl : Sem Bool} (hc : eval (.Call (.Attribute (.Call (.Name "super" p0) [] [] p1) "__init__" p2) [e] [] pos) X.env = (do
      let ov ← attributeBase (.Call (.Name "super" p0) [] [] p1) "__init__" X.env (eval (.Call (.Name "super" p0) [] [] p1) X.env)
      standAt p2.atName
      let (g, g1) ← holding [ov] (getMethod ov "__init__" pl)
      callWith pos g g1 (backTo pos (starEach [e] X.env)) []))
    (he : starEach [e] X.env = (false, eval e X.env) :: starEach [] X.env := by rfl) :
    PySem.wpAt (model X.prog X.w) X.A (.func body X.env) (eval (.Call (.Attribute (.Call (.Name "super" p0) [] [] p1) "__init__" p2) [e] [] pos) X.env) (EP X pins σ Q) X.xe s := by
  obtain ⟨of, fd, ar, lf, hfd, hp, ear⟩ := Z.fn
  obtain ⟨oc, vs, file, tf, lc, hoc, hvs, hfile⟩ := Z.cd
  obtain ⟨ol, lo, hol⟩ := Z.cv
  obtain ⟨cdC, hcC⟩ := Z.cl
  subst ear
  have K1 := I.kIn
  obtain ⟨t1, hx⟩ := exo_at I.hok ea
  have In1 : PySem.W.InstAt s.heap a (PySem.W.excObj C t1 none .none) C none := ⟨hx, rfl, rfl, trivial⟩
  obtain ⟨oD, hD1, hD2⟩ : ∃ oD, s.heap.get? C = some oD ∧ oD.data = .cls cdC := by
    unfold PySem.W.clsIn at hcC
    split at hcC
    · rename_i ho
      cases hcC
      exact ⟨_, K1 _ _ ho, rfl⟩
    · cases hcC
  obtain ⟨hp', g, d, t, os⟩ := s
  refine PySem.ks_wpAt_MethodCall (pl := pl) (PySem.ks_wpAt_super_base Z.ks Z.kc (by decide) Z.fu (K1 _ _ lf) hfd hp Z.co (K1 _ _ lc) hoc hvs hfile Z.top ?_) hc
  obtain ⟨mb, b1, b2⟩ := I.mod.blt
  refine PySem.W.ks_loadName_global I.ok.kind Z.ks (Calls.loadGlobal_builtin (by rw [I.ok.glob]; exact I.mod.glob.keeps I.bk) Z.mg (by rw [I.ok.blt]; exact b1.keeps I.bk) ((b2 "super" (by decide)).trans boot_sup) ⟨rfl, ?_⟩)
  refine wpAny_loadName_free I.ok.kind Z.kc Z.ce ⟨ol, K1 _ _ lo, hol⟩ ?_
  obtain ⟨m, hn, hl⟩ := I.loc
  obtain ⟨uv, r, l⟩ := hl i ar.arg (.ref a) hi hs (.inl Z.lo)
  obtain rfl : uv = Value.ref a := r
  rcases l with ⟨hk, hm⟩ | ⟨hk, _⟩
  · refine wpAny_loadName_local I.ok.kind hk hn hm (PySem.ks_wpAny_isType_cls hD1 hD2 ⟨rfl, PySem.ks_wpAny_call_super hD1 hD2 hx rfl (fun c e => by cases e) (PySem.W.looks_mroIn K1 Z.mr) fun h' hso kp => ?_⟩)
    have I2 : Inv X pins σ H ⟨h', g, d, t, os⟩ := I.kept (t' := t) kp
    have K2 := I2.kIn
    have In2 : PySem.W.InstAt h' a (PySem.W.excObj C t1 none .none) C none := ⟨kp _ _ hx, rfl, rfl, trivial⟩
    have hsu := Z.su
    unfold PySem.W.ks_superIn at hsu
    rw [hcC] at hsu
    refine PySem.W.kxs_getMethod PySem.W.kxs_ValueError hso (PySem.W.looks_opaque K2 Z.op) (l₀ := cdC.mro) (fun A' Q' E' s' k' q' => wpAny_bind ((PySem.W.looks_clsIn K2 hcC) A' _ E' s' k' (wpAny_pure q'))) rfl K2 hsu (In2.type.andThen (PySem.W.looks_subIn K2 Z.ve)) (PySem.W.ks_ne K2 In2 hcC) (by decide) ?_
    have nu : H h'.objs.size = none := I2.hok.fresh (Nat.le_refl _)
    have I3 : Inv X pins σ (upd H h'.objs.size (mwO h'.objs.size a)) ⟨h'.push (PySem.W.kxs_mw "ValueError.__init__" a), g, d, t + 1, os⟩ := I2.laid (a := h'.objs.size) (t' := t + 1) (fun b o z => Heap.get?_push_of_some _ z) (Nat.le_refl _) (mwO_ok (Heap.get?_push_size _ rfl))
    generalize h'.objs.size = u at nu I3 ⊢
    generalize h'.push (PySem.W.kxs_mw "ValueError.__init__" a) = h3 at I3 ⊢
    have au : a ≠ u := fun z => by
      rw [← z, ea] at nu
      cases nu
    rw [he]
    refine PySem.W.kxs_callWith (i := "ValueError.__init__") (x := a) rfl (Calls.evalArgs_plain ?_)
    have run := ha.run pos pins _ σ _ _ I3 (hta u nu)
    rw [he] at run
    refine thn run fun us s4 ⟨vs4, H4, I4, rv, eH, hlen, q⟩ => ?_
    subst eH
    have hu4 : s4.heap.get? u = some (PySem.W.kxs_mw "ValueError.__init__" a) := (show ObjOk X.prog X.w _ _ u (mwO u a) from I4.hok u _ upd_same).1
    have hl4 : us.length ≤ sizeLine := by
      rw [← Paired.length rv, sizeLine_eq]
      omega
    exact ⟨hu4, wrap_call T I4 (by rw [upd_ne au]; exact ea) hu4 hl4 fun s' J => ⟨.non, _, J, rfl, q⟩⟩
  · have zl : X.env.kindOf ar.arg = some .local := Z.lo
    rcases hk with hk | hk
    · rw [zl] at hk
      cases hk
    · rw [zl] at hk
      cases hk
end
end Tc
namespace Tc
open PySem PySem.Spec PyProof.Rows L2 NdefX
section
variable {CX : CXT} {P : Program} {w : World} {K : PySem.W.Frag} {mg : Str → Option Value} {base : Heap} {N ps : List Str} {f cc cda C : Addr} {k : Nat} {sp : Sp} {name qual : Str} {params : Arguments} {scope : Scope} {st1 st2 : Stmt} {dV kV doc pm ct oc : Value} {an od : Option Addr} {osl : Array (Option Value)}
/-- the def as a nested one, its one cell the class -/
abbrev xF (name qual : Str) (params : Arguments) (st1 st2 : Stmt) (scope : Scope) (cc cda : Addr) : NF := ⟨name, qual, params, [st1, st2], scope, [("__class__", cc)], cda⟩
set_option maxHeartbeats 2000000 in
/-- a def whose first row is super().__init__(e) -/
theorem fn_super {p0 p1 p2 pos pos' : Pos} {e : Expr} {me : Str} (lk : K.lookup f = some ⟨oc, od, .func (PySem.W.fnX name qual params [st1, st2] scope [("__class__", cc)] dV kV doc pm an (.ref cda) ct), osl⟩) (hcd : PySem.W.codeIn K (.ref cda) qual = true) (S : NScope N ps ["__class__"] scope)
    (len : ∀ vs H Q E, sp vs H Q E → vs.length = ps.length) (T : OexC K C) (ccK : ∃ ol : Obj, K.lookup cc = some ol ∧ ol.data = .cell (some (.ref C)))
    (hst : st1 = .Expr (.Call (.Attribute (.Call (.Name "super" p0) [] [] p1) "__init__" p2) [e] [] pos) pos') (h0 : N[0]? = some me)
    (hcall : ∀ env : Env, ∃ pl : Sem Bool, eval (.Call (.Attribute (.Call (.Name "super" p0) [] [] p1) "__init__" p2) [e] [] pos) env = (do
      let ov ← attributeBase (.Call (.Name "super" p0) [] [] p1) "__init__" env (eval (.Call (.Name "super" p0) [] [] p1) env)
      standAt p2.atName
      let (g, g1) ← holding [ov] (getMethod ov "__init__" pl)
      callWith pos g g1 (backTo pos (starEach [e] env)) []))
    (hstar : ∀ env : Env, starEach [e] env = (false, eval e env) :: starEach [] env)
    (hint : ∀ L : Addr, interactive (envF (xF name qual params st1 st2 scope cc cda) f L) = false)
    (hsw : ∀ L : Addr, swapsWith (.Call (.Attribute (.Call (.Name "super" p0) [] [] p1) "__init__" p2) [e] [] pos) none pos'.line (envF (xF name qual params st1 st2 scope cc cda) f L) = pure false)
    (hZ : ∀ (A : Around) (outer : List Env) (s : Shared) (H : Hp) (E : XK), SupX (ncx CX P w K mg base N (xF name qual params st1 st2 scope cc cda) f A outer s H E) C f cc cda me)
    (hbody : ∀ (A : Around) (outer : List Env) (s : Shared) (H : Hp) (vs : List V) (Q : VK) (E : XK), Room k (A.deeper (envF (xF name qual params st1 st2 scope cc cda) f s.heap.objs.size)) → sp vs H Q E →
      ∃ (a : Addr) (ta : TA) (t2 : TS), vs[0]? = some (.ref a) ∧ H a = some (exo a C none) ∧ PA (ncx CX P w K mg base N (xF name qual params st1 st2 scope cc cda) f A outer s H E) [e] ta ∧ PSs (ncx CX P w K mg base N (xF name qual params st1 st2 scope cc cda) f A outer s H E) [st2] t2 ∧
        ∀ u, H u = none → ta (startF N vs [some (.ref C)]) (upd H u (mwO u a)) fun ws H1 => H1 = upd H u (mwO u a) ∧ ws.length ≤ 1000 ∧ t2 { nx := fun _ H' => Q .non H', rt := Q } (startF N vs [some (.ref C)]) H1) :
    FnOk P w K mg base CX (k + 1) f (PySem.W.fnX name qual params [st1, st2] scope [("__class__", cc)] dV kV doc pm an (.ref cda) ct) ps sp := by
  refine ⟨len, fun A outer s H aa us vs Q E hr e0 hb r hsp => ?_⟩
  have hl := len _ _ _ _ hsp
  have KX : K.In s.heap := e0.mod.kin.keeps fun b o z => (e0.bs b o z).1
  have lim : s.heap.NoLimit := e0.mod.nolimit.keeps fun b o z => (e0.bs b o z).1
  refine PySem.ks_codeAny_call_defAt hr.depth (KX _ _ lk) rfl lim (PySem.W.codeRec_of KX hcd) rfl hb S.nocell (fun ⟨n, _⟩ hy => S.par n (List.of_mem_zip hy).1) (fun h₁ hns kp => ?_) S.co S.gen S.kind
  obtain ⟨ol, lo, hol⟩ := ccK
  have C1 : CellsAt (xF name qual params st1 st2 scope cc cda).cl ["__class__"] [some (.ref C)] s.heap H := by
    have only : ∀ {y : Str} {c : Addr}, ([("__class__", cc)] : List (Str × Addr)).lookup y = some c → y = ("__class__" : Str) ∧ c = cc := fun {y c} h => by
      by_cases z : y = ("__class__" : Str)
      · subst z
        rw [List.lookup_cons_self] at h
        exact ⟨rfl, (Option.some.inj h).symm⟩
      · rw [List.lookup_cons, show (y == ("__class__" : Str)) = false from beq_eq_false_iff_ne.mpr z] at h
        cases h
    have hb0 : base.get? cc = some ol := e0.mod.kin _ _ lo
    obtain ⟨hc1, hc2⟩ := e0.bs _ _ hb0
    have cell : s.heap.IsCell cc (some (.ref C)) := ⟨ol, hc1, hol⟩
    refine ⟨rfl, fun y c h => ?_, fun x y c h1 h2 => (only h1).1.trans (only h2).1.symm, fun i y h => ?_⟩
    · obtain ⟨_, rfl⟩ := only h
      exact ⟨hc2, _, cell⟩
    · cases i with
      | zero =>
        cases h
        exact ⟨cc, List.lookup_cons_self, fun v hv => by
          cases hv
          exact ⟨_, rfl, cell⟩⟩
      | succ i => cases h
  have I : Inv (ncx CX P w K mg base N (xF name qual params st1 st2 scope cc cda) f A outer s H E) [] (startF N vs [some (.ref C)]) H { s with heap := h₁, toks := s.toks + (ps.zip us).length } := inv_startN S hr.hd e0 hl r C1 hns kp
  obtain ⟨a, ta, t2, hv0, ea, ha, h2, hta⟩ := hbody A outer s H vs Q E (hr.deeper _) hsp
  subst hst
  have hs0 : (startF N vs [some (.ref C)])[0]? = some (some (.ref a)) := by
    unfold startF
    cases vs with
    | nil => cases hv0
    | cons v vs =>
      cases hv0
      rfl
  have fin : ∀ {s' : Shared} {σ' : L2.St} {H' : Hp} {v : V} {u : Value}, Inv (ncx CX P w K mg base N (xF name qual params (.Expr (.Call (.Attribute (.Call (.Name "super" p0) [] [] p1) "__init__" p2) [e] [] pos) pos') st2 scope cc cda) f A outer s H E) [] σ' H' s' → L2.RelV v u → Q v H' → CE outer P w H s Q u s' := fun {s' σ' H' v u} J rv q => ⟨v, H', J.os, J.bare, J.base, J.hok, rv, q⟩
  obtain ⟨pl, hc⟩ := hcall (envF (xF name qual params (.Expr (.Call (.Attribute (.Call (.Name "super" p0) [] [] p1) "__init__" p2) [e] [] pos) pos') st2 scope cc cda) f s.heap.objs.size)
  refine PySem.ks_wpAt_execs_cons (PySem.ks_wpAt_Expr_any (PySem.ks_wpAt_mono (sup_init (hZ A outer s H E) T I ea h0 hs0 ha (Q := fun _ H1 => t2 { nx := fun _ H' => Q .non H', rt := Q } (startF N vs [some (.ref C)]) H1) hta hc (hstar _)) (fun v s1 h1 => ?_) fun _ _ z => z) (hint _) (hsw _))
  obtain ⟨y, H1, I1, _, q1⟩ := h1
  refine PySem.wpAt_of_wpAny (wpAny_mono (h2.run [] _ _ H1 _ I1 q1) (fun fl s2 hs => ?_) fun e s2 hs => hs)
  cases fl with
  | ret u =>
    obtain ⟨z, σ', H', J, rv, q⟩ := hs
    exact fin J rv q
  | next =>
    obtain ⟨σ', H', J, q⟩ := hs
    exact fin (u := Value.none) (v := V.non) J rfl q
  | brk =>
    obtain ⟨_, _, _, q⟩ := hs
    exact False.elim q
  | cont =>
    obtain ⟨_, _, _, q⟩ := hs
    exact False.elim q
end
end Tc
/-! exceptions whose context is None: made, raised, let through -/
namespace Tc
open PySem PySem.Spec PyProof.Rows L2
/-- a def that may let an exception out -/
def OwnX (P : Program) (w : World) (K : PySem.W.Frag) (mg : Str → Option Value) (base : Heap) (x : Str) (ps : List Str) (k : Nat) (sp : Sp) : Prop :=
  ∃ (f : Addr) (fd : FuncData), FnOk P w K mg base (L2N.CX P w) k f fd ps sp ∧ mg x = some (.ref f) ∧ PySem.W.keepIn K (.ref f) = true ∧ Binds K fd ps []
section
variable {P : Program} {w : World} {K : PySem.W.Frag} {mg : Str → Option Value} {base : Heap}
theorem okN {x qual : Str} {st : Stmt} {f : Addr} {fd : FuncData} {N ps : List Str} {k : Nat} {sp : Sp} (F : Fun K x qual st f fd) (S : FnScope N ps (defScope st)) (len : ∀ vs H Q E, sp vs H Q E → vs.length = ps.length)
    (hb : ∀ (cdv : Value) (A : Around) (outer : List Env) (s : Shared) (H : Hp) (vs : List V) (Q : VK) (E : XK), Room k (A.deeper (envOfC qual (defScope st) s.heap.objs.size f cdv)) → sp vs H Q E →
      ∃ t, PSs (cxOf (L2N.CX P w) P w K mg base N qual (defScope st) f cdv A outer s H E) (defBody st) t ∧ t { nx := fun _ H' => Q .non H', rt := Q } (start N vs) H) : FnOk P w K mg base (L2N.CX P w) (k + 1) f fd ps sp := by
  obtain ⟨_, _, _, _, _, _, cdv, _, _, rfl, lk, hcd⟩ := F.ex
  exact fn_of lk hcd S len fun A outer s H vs Q E hr z => hb cdv A outer s H vs Q E hr z
end
section
variable {X : Cx}
theorem none_out : L2N.Takes X (fun _ _ _ _ => False) := fun _ _ ⟨_, _, _, _, _, _, _, _, _, _, _, _, _, _, _, _, z⟩ => z.elim
theorem pe_ownX {W : WX} {x : Str} {ps : List Str} {k j : Nat} {sp : Sp} {e : Expr} {es : List Expr} {t : TA} {p pos : Pos} (d : OwnX X.prog X.w X.K X.mg X.base x ps k sp) (tk : L2N.Takes X W) (hr : Room j X.A) (hj : k ≤ j) (hg : Gl X x) (ha : PA X (e :: es) t)
    (he : starEach (e :: es) X.env = (false, eval e X.env) :: starEach es X.env := by rfl) (hdb : (x == ("__debug__" : Str)) = false := by decide) (hpl : (backTo pos (starEach es X.env)).any (·.1) = false := by rfl) :
    PE X (.Call (.Name x p) (e :: es) [] pos) (tCallS sp (WE W) t) := by
  obtain ⟨f, fd, F, hm, hk, hb⟩ := d
  exact pe_callS F (hr.mono hj) hg hm hk hb (fun σ => L2N.passAt tk σ) ha hdb he hpl
set_option maxHeartbeats 2000000 in
/-- C(e, ..) of an own __init__, the context None -/
theorem pmkN {CX : CXT} {x : Str} {e : Expr} {es : List Expr} {ta : TA} {p pos : Pos} {C fI : Addr} {k : Nat} {fd : FuncData} {ps : List Str} {sp : Sp} (T : OexC X.K C) (iC : PySem.W.findIn X.K (.ref C) "__init__" = some (some (.ref fI))) (tI : PySem.W.typeIn X.K (.ref fI) = some (.type "function"))
    (F1 : FnOk X.prog X.w X.K X.mg X.base CX k fI fd ps sp) (hr : Room (k + 1) X.A) (hb : Binds X.K fd ps []) (hx : Passes CX X (fun _ _ _ => False)) (hg : Gl X x) (hm : X.mg x = some (.ref C)) (ha : PA X (e :: es) ta)
    (hdb : (x == ("__debug__" : Str)) = false := by decide)
    (he : starEach (e :: es) X.env = (false, eval e X.env) :: starEach es X.env := by rfl) (hpl : (backTo pos (starEach es X.env)).any (·.1) = false := by rfl) :
    L2N.PMk X (.Call (.Name x p) (e :: es) [] pos) (tMkO C sp [] ta) := by
  intro pins s σ H Q I h
  have T0 := T.cls
  rcases T0 with ⟨_, _, _, _, bm, _, _, _, _, _, _, _, _, _, _, hC, vb⟩
  refine wpAny_Call_Name_kw (ld_glob I hg hm ?_ hdb)
  refine PySem.W.callWith_K (h₀ := X.base) I.mod.kin T.kC (thn (ha.run pos pins s σ H _ I h) fun us s1 z => ?_) he hpl
  rcases z with ⟨vs, H1, I1, r1, _, q1⟩
  refine ⟨I1.kIn, (?_ : wpAny _ _ (call (.ref C) us) _ _ _)⟩
  rcases s1 with ⟨h1, gs, dr, tk, os⟩
  have lt : h1.objs.size ≤ h1.objs.size + 1 := Nat.le_succ _
  have qa := q1 (h1.objs.size + 1) (I1.hok.fresh lt)
  rw [List.append_nil] at qa
  obtain ⟨h2, e2⟩ : ∃ h2 : Heap, h2 = (h1.push (PySem.W.kdv_tup us)).push (PySem.HandSPX.excO C h1.objs.size) := ⟨_, rfl⟩
  have kk : ∀ b o, h1.get? b = some o → h2.get? b = some o := fun b o z => by
    rw [e2]
    exact Heap.get?_push_of_some _ (Heap.get?_push_of_some _ z)
  have at1 : h2.get? (h1.objs.size + 1) = some (PySem.HandSPX.excO C h1.objs.size) := by
    rw [e2]
    heap_get
  have I2 : Inv X pins σ (upd H1 (h1.objs.size + 1) (exo (h1.objs.size + 1) C none)) ⟨h2, gs, dr, tk, os⟩ := I1.laid (t' := tk) kk lt (exo_ok at1)
  have r2 : Vals (.ref (h1.objs.size + 1) :: vs) (.ref (h1.objs.size + 1) :: us) := .cons rfl r1
  have few : us.length ≤ sizeLine := by
    have a := r1.length
    have b := F1.len _ _ _ _ qa
    rename_i c
    rw [← a, sizeLine_eq]
    omega
  have B := hb ⟨h2, gs, dr, tk, os⟩ (.ref (h1.objs.size + 1) :: us) I2.kIn (by
    rw [List.append_nil, ← r2.length]
    exact F1.len _ _ _ _ qa)
  rw [List.append_nil] at B
  rw [e2] at I2 B
  refine wpAny_call (PySem.HandSPX.call_own F.excBase_ValueError (fun Y => PySem.HandSPX.refsVE_contains Y bm vb) (I1.kIn _ _ hC) (PySem.W.looks_findIn I1.kIn iC) (fun a => PySem.W.bind_fn I1.kIn a tI) few (codeAny_mono (F1.run _ X.stack _ _ ⟨_, []⟩ _ _ _ (fun _ _ _ => False) (hr.make C us []) (I2.env0.make C us []) B r2 qa) fun r s' z => ?_))
  cases r with
  | error u => exact hx pins σ _ _ u s' I2 z
  | ok fl =>
    cases fl with
    | ret u =>
      rcases z with ⟨v, H2, o2, b2, u2, k2, rv, ev, d, fs, ea, ed, d1, q2⟩
      subst ev
      rcases s' with ⟨h3, g3, d3, t3, o3⟩
      rw [← e2] at u2
      have M := mk_end0 (d2 := d3) (t2 := t3) I1 lt kk u2 k2 o2 b2 ea ed d1
      rcases M with ⟨t0, G, J, kG, ge, hoe, na⟩
      exact ⟨rv, _, _, _, ⟨G, g3, d3, t3, o3⟩, _, .ref C, some d, rfl, J, kG, ge, hoe, ⟨rfl, rfl, fun ws hw => by
        cases hw
        rfl⟩, rfl, rfl, na, rfl, b2, raises_own T.exC T.tyC, q2⟩
    | next => exact z.elim
    | brk => exact z.elim
    | cont => exact z.elim
end
end Tc
/-! defs called in an except suite, what is known of the exception handed to them -/
namespace Tc
open PySem PySem.Spec PyProof.Rows L2 L2H
/-- a promise by the exception that is handled -/
abbrev SpP := Addr × Obj → Sp
structure FnP (P : Program) (w : World) (K : PySem.W.Frag) (mg : Str → Option Value) (base : Heap) (CX : CXT) (k : Nat) (f : Addr) (fd : FuncData) (ps : List Str) (sp : SpP) : Prop where
  len : ∀ p vs H Q E, sp p vs H Q E → vs.length = ps.length
  run : ∀ (A : Around) (outer : List Env) (s : Shared) (H : Hp) (as : Args) (us : List Value) (vs : List V) (Q : VK) (E : XK) (p : Addr × Obj), RoomH k A → Hot1 A p → PinOk outer H s p → Env0 P w K mg base A outer s H → BindsTo s fd as (ps.zip us) → Vals vs us → sp p vs H Q E →
    codeAny (model P w) A (.call (.ref f) as) (CR CX outer P w H s Q E) s
/-- by its name -/
def OwnP (P : Program) (w : World) (K : PySem.W.Frag) (mg : Str → Option Value) (base : Heap) (x : Str) (ps : List Str) (k : Nat) (sp : SpP) : Prop :=
  ∃ (f : Addr) (fd : FuncData), FnP P w K mg base CX0 k f fd ps sp ∧ mg x = some (.ref f) ∧ PySem.W.keepIn K (.ref f) = true ∧ Binds K fd ps []
section
variable {CX : CXT} {P : Program} {w : World} {K : PySem.W.Frag} {mg : Str → Option Value} {base : Heap}
theorem okP {x qual : Str} {st : Stmt} {f : Addr} {fd : FuncData} {N ps : List Str} {k : Nat} {sp : SpP} (F : Fun K x qual st f fd) (S : FnScope N ps (defScope st)) (len : ∀ p vs H Q E, sp p vs H Q E → vs.length = ps.length)
    (hb : ∀ (cdv : Value) (A : Around) (outer : List Env) (s : Shared) (H : Hp) (vs : List V) (Q : VK) (E : XK) (p : Addr × Obj), Hot1 A p → RoomH k (A.deeper (envOfC qual (defScope st) s.heap.objs.size f cdv)) → sp p vs H Q E →
      ∃ t, PSs (cxH CX P w K mg base N qual (defScope st) f cdv A outer s H E p) (defBody st) t ∧ t { nx := fun _ H' => Q .non H', rt := Q } (L2.start N vs) H) :
    FnP P w K mg base CX (k + 1) f fd ps sp := by
  obtain ⟨_, _, _, _, _, _, cdv, _, _, rfl, lk, hcd⟩ := F.ex
  refine ⟨len, fun A outer s H as us vs Q E p hr hot hpin e0 hbd r z => ?_⟩
  have kb : ∀ b o, base.get? b = some o → s.heap.get? b = some o := fun b o y => (e0.bs b o y).1
  have KX := e0.mod.kin.keeps kb
  have lim := e0.mod.nolimit.keeps kb
  refine codeAny_call_function hr.depth (KX _ _ lk) rfl S.co S.gen rfl (PySem.W.codeRec_of KX hcd) (hbd _ _ _ _ (wpAny_newFunctionEnv_cells S.kind (fun y hy => ?_) fun env he s1 x => ?_))
  · exact (S.par y.1 (List.of_mem_zip hy).1).imp id fun q => ⟨q, PySem.W.cellsFrom_some _ _ _ (.inl q)⟩
  · cases he
    have kept := lim.keeps x.toInCall.keep
    refine ⟨kept, codeAny_func ?_⟩
    obtain ⟨t, ht, hq⟩ := hb cdv A outer s H vs Q E p hot (hr.deeper _) z
    have I0 : Inv (cxH CX P w K mg base N qual (defScope st) f cdv A outer s H E p) [] (L2.start N vs) H s1 := inv_startH S hpin e0 (len _ _ _ _ _ z) r x
    refine wpAny_mono (ht.run [] s1 _ H _ I0 hq) (fun fl s' y => ?_) fun u s' y => y
    match fl, y with
    | .ret u, ⟨v, _, H', J, rv, q⟩ => exact (⟨v, H', J.os, J.bare, J.base, J.hok, rv, q⟩ : CE outer P w H s Q u s')
    | .next, ⟨_, H', J, q⟩ => exact (⟨.non, H', J.os, J.bare, J.base, J.hok, rfl, q⟩ : CE outer P w H s Q .none s')
    | .brk, ⟨_, _, _, q⟩ => exact q.elim
    | .cont, ⟨_, _, _, q⟩ => exact q.elim
end
section
variable {X : Cx}
/-- the exception stands pinned in X -/
def HotP (X : Cx) (p : Addr × Obj) : Prop := Hot1 X.A p ∧ p ∈ X.pn
theorem HotP.c {p : Addr × Obj} (h : HotP X p) : HotC X := ⟨p, h.1, h.2⟩
theorem pe_ownP {x : Str} {ps : List Str} {k j : Nat} {sp : SpP} {pt : Addr × Obj} {e : Expr} {es : List Expr} {t : TA} {p pos : Pos} (d : OwnP X.prog X.w X.K X.mg X.base x ps k sp) (hp : HotP X pt) (hr : RoomH j X.A) (hj : k ≤ j) (hg : Gl X x) (ha : PA X (e :: es) t)
    (he : starEach (e :: es) X.env = (false, eval e X.env) :: starEach es X.env := by rfl) (hdb : (x == ("__debug__" : Str)) = false := by decide) (hpl : (backTo pos (starEach es X.env)).any (·.1) = false := by rfl) :
    PE X (.Call (.Name x p) (e :: es) [] pos) (tCall (sp pt) [] E0 t) := by
  obtain ⟨f, fd, F, hm, hk, hb⟩ := d
  refine ⟨fun pins s σ H Q I h => ?_⟩
  refine wpAny_Call_Name_kw (ld_glob I hg hm ?_ hdb)
  refine PySem.W.callWith_K (h₀ := X.base) I.mod.kin hk (thn (ha.run pos pins s σ H _ I h) fun us s1 z => ?_) he hpl
  obtain ⟨vs, H1, I1, r, q⟩ := z
  rw [List.append_nil] at q
  have b := hb s1 us I1.kIn (by
    rw [List.append_nil, ← r.length]
    exact F.len _ _ _ _ _ q)
  rw [List.append_nil] at b
  have y := I1.pin pt (List.mem_append_left _ hp.2)
  refine ⟨I1.kIn, wpAny_call (codeAny_mono (F.run X.A X.stack s1 H1 ⟨us, []⟩ us vs Q E0 pt (hr.mono hj) hp.1 ⟨y.1, y.2.1, fun m => ?_, y.2.2.2.2⟩ I1.env0 b r q) fun r' s' z => ?_)⟩
  · rcases List.mem_cons.mp (I1.stkSub pt.1 m) with m | m
    · exact y.2.2.1 m
    · exact y.2.2.2.1 m
  · match r', z with
    | .ok (.ret u), z => exact I1.after z
/-- what is to be known of the class D -/
structure ExK (K : PySem.W.Frag) (D : Addr) : Prop where
  cl : (PySem.W.clsIn K D).isSome = true
  ga : PySem.W.findIn K (.ref D) "__getattribute__" = some (some (.builtin "BaseException.__getattribute__"))
  gt : PySem.W.findIn K (.ref D) "__getattr__" = some none
  sb : PySem.W.subIn K (.ref D) (.type "BaseException") = some true
  ca : PySem.W.findIn K (.ref D) "__class__" = some (some (.builtin "object.__class__"))
  cg : PySem.W.specialIn K (.builtin "object.__class__") "__get__" = some (some (.builtin "getset_descriptor.__get__"))
  tc : PySem.W.takesIn K (.builtin "object.__class__") = some true
  mo : PySem.W.mroIn K D (.type "object") = some true
/-- the exception pinned at p is of the class D, its dict d -/
structure IsEx (D : Addr) (d : Option Addr) (p : Addr × Obj) : Prop where
  cl : p.2.cls = .ref D
  di : p.2.dict = d
  fs : ∃ vs, p.2.data = .fields vs
/-- isinstance(e, c) of the pinned one; its dict, if it has one, stands tracked -/
def rIsP (K : PySem.W.Frag) (D : Addr) (d : Option Addr) (p : Addr × Obj) : List V → Hp → VK → Prop := fun xs H Q => ∃ (c : V) (cv : Value) (b : Bool), xs = [.ref p.1, c] ∧ (∀ u, RelV c u → u = cv) ∧ (∀ a, d = some a → ∃ fs, H a = some (.xd fs)) ∧ PySem.W.kitOne K (.ref D) cv = some b ∧ Q (.bl b) H
theorem call_isP {D : Addr} {d : Option Addr} {p : Addr × Obj} (C : ExK X.K D) (hp : p ∈ X.pn) (hx : IsEx D d p) : CallR X (.builtin "isinstance") (rIsP X.K D d p) := by
  intro pins s σ H xs us Q I r h
  obtain ⟨c, cv, b, rfl, hcv, hd, e, q⟩ := h
  match us, r with
  | [_, u], .cons r1 (.cons r2 .nil) =>
    cases r1
    have ec := hcv u r2
    subst ec
    have y := (I.pin p (List.mem_append_left _ hp)).1
    obtain ⟨vs, hv⟩ := hx.fs
    have nc : PySem.W.notCls p.2 = true := by
      unfold PySem.W.notCls
      rw [hv]
    have J : ∃ od, PySem.W.InstAt s.heap p.1 p.2 D od := by
      cases d with
      | none => exact ⟨none, y, hx.cl, nc, by
          rw [hx.di]
          trivial⟩
      | some a =>
        obtain ⟨fs, hd⟩ := hd a rfl
        have hz : ObjOk X.prog X.w H s.heap a (.xd fs) := I.hok a _ hd
        obtain ⟨mA, hns, _⟩ := hz
        obtain ⟨od, ho, _⟩ := lookIn_ns hns
        exact ⟨some od, y, hx.cl, nc, by
          rw [hx.di]
          exact ho⟩
    obtain ⟨od, J⟩ := J
    exact PySem.W.kia_one (PySem.W.kitx_exc C.cl C.ga C.gt C.sb C.ca C.cg C.tc C.mo) I.kIn J e (fun z => nomatch z) fun tk => ⟨.bl b, H, I.kept (t' := tk) fun _ _ z => z, rfl, q⟩
end
end Tc
/-! a list comprehension in a def that an except suite calls -/
namespace Tc
open PySem PySem.Spec PyProof.Rows L2 L2H
/-- the block, the exception pinned in it -/
abbrev blkH (X : Cx) (s : Shared) (H : Hp) (sc : Scope) (ce : Env) (fp : List Addr) (pt : Addr × Obj) : Cx := { X.blk s H sc ce fp with pn := [pt] }
section
variable {X : Cx} {pins : List (Addr × Obj)} {σ : L2.St} {H : Hp} {s : Shared} {pt : Addr × Obj}
theorem inv_blkH {sc : Scope} {own : List (Str × Nat)} {fp : List Addr} (I : Inv X pins σ H s) (ok : BlkOk X.N X.env.scope sc own) (hN : X.N.Nodup) (hp : pt ∈ X.pn) (hf : ∀ b ∈ fp, FpOk X pins H b ∧ b < s.heap.objs.size) :
    Inv (blkH X s H sc (compEnvC sc (cellsFrom (s.heap.objs.size + 1) sc.names (cloFrom X.env.cells sc.names [])) s.heap.objs.size X.env) fp pt) [] (wipe σ (own.map (·.2))) H { s with heap := pushCells (s.heap.push { cls := .type "dict", data := .dict #[] }) sc.names } := by
  have J := block_start I ok hN hf
  have y := I.pin pt (List.mem_append_left _ hp)
  have o := J.ok
  refine ⟨⟨o.mod, o.kind, o.glob, o.blt, o.above, o.inj, o.has, o.cab, o.hd, o.frames, o.stk, o.exf, o.bs, o.bsz, o.noex, o.exfs, o.funs, o.frf⟩, J.os, J.bare, J.base, J.loc, J.cell, J.free, J.freeC, fun q hq => ?_, J.hok, J.len⟩
  have e : q = pt := by simpa using (show q ∈ [pt] ++ ([] : List (Addr × Obj)) from hq)
  subst e
  refine ⟨pushCells_keeps _ _ _ _ (Heap.get?_push_of_some _ y.1), y.2.1, Nat.ne_of_lt (Heap.lt_size y.1), fun m => ?_, y.2.2.2.2⟩
  rcases List.mem_cons.mp (I.stkSub q.1 m) with m | m
  · exact y.2.2.1 m
  · exact y.2.2.2.1 m
end
section
variable {X : Cx} {pt : Addr × Obj}
set_option maxHeartbeats 2000000 in
theorem pe_lcH {elt tg iter : Expr} {ifs : List Expr} {sc : Scope} {own : List (Str × Nat)} {pos : Pos} {wi : TI} {g : TG} {tt : TT} {te : TE} (hp : HotP X pt) (hN : X.N.Nodup) (hi : PIH X tg iter wi) (ok : BlkOk X.N X.env.scope sc own)
    (hg : ∀ (s : Shared) (H : Hp) (C : Addr) (cl : List (Str × Addr)) (fp : List Addr), PG (blkH X s H sc (compEnvC sc cl C X.env) fp pt) tg g) (ht : ∀ (s : Shared) (H : Hp) (C : Addr) (cl : List (Str × Addr)) (fp : List Addr), PTs (blkH X s H sc (compEnvC sc cl C X.env) fp pt) ifs tt)
    (he : ∀ (s : Shared) (H : Hp) (C : Addr) (cl : List (Str × Addr)) (fp : List Addr), PE (blkH X s H sc (compEnvC sc cl C X.env) fp pt) elt te) (hs : ∀ x, foldedSetIterable iter X.env x = pure x := by intro _; rfl) :
    PE X (.ListComp elt [⟨tg, iter, ifs, 0⟩] sc pos) (tLc wi g tt te (own.map (·.2))) := by
  refine ⟨fun pins s σ H Q I h => ?_⟩
  rw [eval_ListComp]
  have fr : ∀ y ∈ sc.names, y.2 = .free → ∃ c, X.env.cells.lookup y.1 = some c := fun y hy e => I.ok.has _ (ok.free y hy e)
  refine wpAny_comprehension_free (use := none) rfl hs (closure_ok fr) ok.kind (fun y hy e => (ok.uniq y hy).trans (congrArg some e)) (thn (hi.run pins s σ H _ I h) fun xv s1 hx => thn hx fun iv s2 z => ?_)
  obtain ⟨it, fp, tn, J, H2, ei, I2, T, t2, f2, q⟩ := z
  subst ei
  refine wpAny_newObj_type (newEnv_comp ?_) (Nat.zero_le _)
  have nD : H2 s2.heap.objs.size = none := I2.hok.fresh (Nat.le_refl _)
  have J3 : Inv X pins σ (upd H2 s2.heap.objs.size (.lst [])) { s2 with heap := s2.heap.push { cls := .type "list", data := .seq ([] : List Value).toArray } } :=
    I2.laid (t' := s2.toks) (fun b o e => Heap.get?_push_of_some _ e) (Nat.le_refl _) ⟨Nat.zero_le _, [], 0, .nil, Heap.get?_push_size _ rfl⟩
  have fpl : ∀ b ∈ fp, b < s2.heap.objs.size := fun b hb => by
    obtain ⟨o, e, _⟩ := T.obj _ _ t2 b hb
    exact Heap.lt_size e
  have f3 : ∀ b ∈ fp, FpOk X pins (upd H2 s2.heap.objs.size (.lst [])) b ∧ b < (s2.heap.push { cls := .type "list", data := .seq ([] : List Value).toArray }).objs.size := fun b hb =>
    ⟨⟨(upd_ne (Nat.ne_of_lt (fpl b hb))).trans (f2 b hb).1, (f2 b hb).2⟩, by
      rw [Heap.size_push]
      exact Nat.lt_succ_of_lt (fpl b hb)⟩
  have t3 : tn 0 (s2.heap.push { cls := .type "list", data := .seq ([] : List Value).toArray }) := T.keep _ _ _ t2 fun b _ o e => Heap.get?_push_of_some _ e
  obtain ⟨W, ⟨m0, w0⟩, turn⟩ := q _ nD
  generalize s2.heap.objs.size = D at *
  generalize upd H2 D (.lst []) = H3 at *
  obtain ⟨s3, e3⟩ : ∃ s3 : Shared, s3 = { s2 with heap := s2.heap.push { cls := .type "list", data := .seq ([] : List Value).toArray } } := ⟨_, rfl⟩
  have e3h : s3.heap = s2.heap.push { cls := .type "list", data := .seq ([] : List Value).toArray } := by rw [e3]
  rw [← e3] at J3 ⊢
  rw [← e3h] at f3 t3
  have J4 := inv_blkH J3 ok hN hp.2 f3
  have pg := hg s3 H3 s3.heap.objs.size (cellsFrom (s3.heap.objs.size + 1) sc.names (cloFrom X.env.cells sc.names [])) fp
  have ps := ht s3 H3 s3.heap.objs.size (cellsFrom (s3.heap.objs.size + 1) sc.names (cloFrom X.env.cells sc.names [])) fp
  have pe := he s3 H3 s3.heap.objs.size (cellsFrom (s3.heap.objs.size + 1) sc.names (cloFrom X.env.cells sc.names [])) fp
  have t4 : tn 0 (pushCells (s3.heap.push { cls := .type "dict", data := .dict #[] }) sc.names) := T.keep _ _ _ t3 fun b _ o e => pushCells_keeps _ _ _ _ (Heap.get?_push_of_some _ e)
  show codeAny _ _ (.compStart (.ListComp elt [⟨tg, iter, ifs, 0⟩] sc pos) 0 (.ref it) (.ref D) (compEnvC sc (cellsFrom (s3.heap.objs.size + 1) sc.names (cloFrom X.env.cells sc.names [])) s3.heap.objs.size X.env)) (compPost (model X.prog X.w) X.A X.xe none _ (.ref D) s3.heap.objs.size) { s3 with heap := pushCells (s3.heap.push { cls := .type "dict", data := .dict #[] }) sc.names }
  obtain ⟨ce, hce⟩ : ∃ ce, ce = compEnvC sc (cellsFrom (s3.heap.objs.size + 1) sc.names (cloFrom X.env.cells sc.names [])) s3.heap.objs.size X.env := ⟨_, rfl⟩
  have loc : ce.locals = s3.heap.objs.size := by
    rw [hce]
    rfl
  rw [← hce] at J4 pg ps pe ⊢
  obtain ⟨s4, e4⟩ : ∃ s4 : Shared, s4 = { s3 with heap := pushCells (s3.heap.push { cls := .type "dict", data := .dict #[] }) sc.names } := ⟨_, rfl⟩
  have e4h : s4.heap = pushCells (s3.heap.push { cls := .type "dict", data := .dict #[] }) sc.names := by rw [e4]
  rw [← e4h] at t4
  rw [← e4] at J4 ⊢
  obtain ⟨Y, hY⟩ : ∃ Y, Y = blkH X s3 H3 sc ce fp pt := ⟨_, rfl⟩
  have hot : HotC Y := by
    rw [hY]
    exact ⟨pt, hp.1, List.mem_singleton.mpr rfl⟩
  have foot : ∀ {σ' : L2.St} {H' : Hp} {s' : Shared}, Inv Y [] σ' H' s' → (∀ b ∈ fp, H' b = none) → ∀ b ∈ fp, FpOk Y [] H' b := fun {σ' H' s'} I' hn b hb => by
    subst hY
    refine ⟨hn b hb, (I'.ok.exf b hb).1, I'.ok.exfs b hb, .inl hb, (I'.ok.exf b hb).2, fun q hq => ?_⟩
    have e : q = pt := by simpa using (show q ∈ [pt] ++ ([] : List (Addr × Obj)) from hq)
    subst e
    exact (f2 b hb).2.2.2.2.2 q (List.mem_append_left _ hp.2)
  have loop : codeAny (model X.prog X.w) X.A (.compLoop (.ListComp elt [⟨tg, iter, ifs, 0⟩] sc pos) 0 (.ref it) (.ref D) ce) (compPost (model X.prog X.w) X.A X.xe none (EP X pins σ Q) (.ref D) s3.heap.objs.size) s4 := by
    refine compLoop_any (fun n s' => ∃ i H', Inv Y [] (wipe σ (own.map (·.2))) H' s' ∧ tn i s'.heap ∧ (∀ b ∈ fp, H' b = none) ∧ W i n H') ?_ m0 ⟨0, H3, by rw [hY]; exact J4, t4, fun b hb => (f3 b hb).1.1, w0⟩
    rintro n s5 ⟨i, H5, J5, t5, n5, w5⟩
    have P1 : Y.prog = X.prog := by rw [hY]
    have P2 : Y.w = X.w := by rw [hY]
    have P3 : Y.K = X.K := by rw [hY]
    have P4 : Y.A = X.A := by rw [hY]
    rcases turn i n H5 w5 with ⟨halt, qq⟩ | ⟨go, Nx, hNx, step⟩
    · have td := T.done Y P1 P2 P3 hot i [] s5 _ H5 (fun _ _ => False) J5 (foot J5 n5) t5 halt
      rw [P4] at td
      refine thnF td fun r s6 y => ?_
      obtain ⟨hr, J6⟩ := y
      subst hr hY
      have J7 : Inv X pins σ H5 s6 := J3.call' (ch := fp) J6.os J6.base J6.hok J6.bare fun b hb => ⟨(f3 b hb).1.2.2.2.1, (f3 b hb).1.2.1, (f3 b hb).1.2.2.2.2.1, (f3 b hb).1.2.2.2.2.2⟩
      have nC : H5 s3.heap.objs.size = none := loc ▸ (J6.free : H5 ce.locals = none)
      obtain ⟨m, hn, _⟩ := J6.loc
      replace hn : s6.heap.Ns ce.locals m := hn
      rw [loc] at hn
      obtain ⟨a0, a1, a2, a3, a4, a5⟩ := J3.fpOk (b := s3.heap.objs.size) (Nat.le_refl _) nC
      exact ⟨m, hn, fun h' sb => ⟨.ref D, H5, J7.turned (t' := s6.toks) (fun b o hb e => (sb.2 b hb).trans e) a0 a1 a3 a4 a5, rfl, qq⟩⟩
    · have ti := T.item Y P1 P2 P3 hot i [] s5 _ H5 (fun _ _ => False) J5 (foot J5 n5) t5 go
      rw [P4] at ti
      refine thnF ti fun r s6 y => ?_
      obtain ⟨u, hr, y⟩ := y
      subst hr
      refine thnF y fun _ s7 y => ?_
      obtain ⟨x, H7, J7, r7, y7, t7, n7⟩ := y
      have J7' := J7.pinned (foot J7 n7) (T.obj _ _ t7)
      subst hY
      refine thnF (pg.run _ s7 _ H7 x u _ J7' r7 (step x H7 y7)) fun _ s8 y => ?_
      obtain ⟨σ8, H8, J8, hw, q8⟩ := y
      refine thnF (ps.run _ s8 σ8 H8 _ J8 q8) fun b s9 y => ?_
      obtain ⟨H9, J9, q9⟩ := y
      have fin : ∀ {s' : Shared} {H' : Hp}, Inv (blkH X s3 H3 sc ce fp pt) ([] ++ pinsAt fp s7.heap) σ8 H' s' → Nx H' → ∃ m, m < n ∧ ∃ i H', Inv (blkH X s3 H3 sc ce fp pt) [] (wipe σ (own.map (·.2))) H' s' ∧ tn i s'.heap ∧ (∀ b ∈ fp, H' b = none) ∧ W i m H' := fun {s' H'} I' nx => by
        obtain ⟨m', hm', w'⟩ := hNx H' nx
        have pin : ∀ b ∈ fp, ∀ o, s7.heap.get? b = some o → s'.heap.get? b = some o ∧ H' b = none := fun b hb o e => by
          have z := I'.pin (b, o) (List.mem_append_right _ (List.mem_append_right _ (mem_pinsAt hb e)))
          exact ⟨z.1, z.2.1⟩
        refine ⟨m', hm', i + 1, H', (I'.unpinned (pins := [])).weak (by rw [← hw, wipe_length]) (fun j v e => ?_), T.keep _ _ _ t7 fun b hb o e => (pin b hb o e).1, fun b hb => ?_, w'⟩
        · exact (wipe_some (hw.symm ▸ e)).1
        · obtain ⟨o, e, _⟩ := T.obj _ _ t7 b hb
          exact (pin b hb o e).2
      cases b with
      | false => exact fin J9 (by simpa using q9)
      | true =>
        rw [if_pos rfl] at q9 ⊢
        refine thnF (pe.run _ s9 σ8 H9 _ J9 q9) fun v s10 y => ?_
        obtain ⟨yv, H10, J10, r10, acc, hD, hz, nx⟩ := y
        exact app_ok (X := blkH X s3 H3 sc ce fp pt) J10 hD hz r10 fun s11 J11 => fin J11 nx
  exact codeAny_compStart_list loop (T.self X.A 0 _ _ _ t4 loop)
end
end Tc
/-! a, b = x, y in an except suite -/
namespace Tc
open PySem PySem.Spec PyProof.Rows L2 L2H HotX
section
variable {prog : Program} {w : World} {A : Around} {E : Value → Shared → Prop} {s : Shared}
/-- StopIteration is made and let go while another exception is handled -/
theorem stop_hot {xa : Addr} {Q : Fin → Shared → Prop} (hot : HotAt A xa s.heap) (hE : ∀ (h' : Heap) (e : Addr), (∀ b o, s.heap.get? b = some o → h'.get? b = some o) → Shared.TypeIs { s with heap := h' } (.ref e) "StopIteration" → E (.ref e) { s with heap := h' }) :
    wpAny (model prog w) A Builtin.SmallTypes.stopIteration Q E s := by
  obtain ⟨hh, o1, v1, h1, d1, c1⟩ := hot
  show wpAny _ _ (newExc (.type "StopIteration") [] >>= _) _ _ _
  refine wpAny_bind ?_
  simp only [newExc, newTuple]
  refine wpAny_bind (wpAny_newObj_type ?_ (by size_fits))
  refine wpAny_bind (m := firstArgMember _ _) (wpAny_of_eq (a := Value.none) (by first | rfl | (simp only [firstArgMember]; rfl)) (wpAny_newObj_type ?_ (by size_fits)))
  refine raiseNew_hot ⟨hh, o1, v1, Heap.get?_push_of_some _ (Heap.get?_push_of_some _ h1), d1, c1⟩ (Nat.ne_of_lt (Heap.lt_size (Heap.get?_push_of_some _ h1))) (Heap.get?_push_size _ rfl) rfl (by first | (simp; done) | (simp; omega)) (hE _ _ (fun b o e => ?_) ⟨_, Heap.get?_update_self _ (Heap.get?_push_size _ rfl) rfl, rfl⟩)
  have lt := Heap.lt_size (Heap.get?_push_of_some { cls := .type "tuple", data := .seq ([] : List Value).toArray } e)
  rw [Heap.get?_update_other _ _ (Nat.ne_of_gt lt)]
  exact Heap.get?_push_of_some _ (Heap.get?_push_of_some _ e)
/-- a tuple's iterator at its end, an exception being handled -/
theorem tup_end_hot {it t xa : Addr} {i : Nat} {its : Array Value} {Q : Option Value → Shared → Prop} (hot : HotAt A xa s.heap) (hne : xa ≠ it) (hit : IsTupIter s.heap it t i) (ht : IsTup s.heap t its) (hx : its[i]? = none)
    (hQ : ∀ h', Heap.ExtBut it s.heap h' → Q none { s with heap := h' }) :
    wpAny (model prog w) A (pyNext (.ref it)) Q E s := by
  obtain ⟨hh, o1, v1, h1, d1, c1⟩ := hot
  obtain ⟨o, ho, hc, hd⟩ := (show IsTupIter s.heap it t i from hit)
  obtain ⟨ol, hol, _, nl, hl⟩ := ht
  unfold pyNext
  refine wpAny_bind (wpAny_attempt (wpAny_callSpecial?_slot (name := Str.ofString "__next__") hit.typeIs slot_tupleiter_next (wpAny_call_entry slot_tupleiter_next hit.typeIs entry_tupleiter_next (?_ : wpAny _ _ (field (.ref it) 0 >>= _) _ _ s) (args_tupleiter_next _))))
  refine wpAny_bind (wpAny_field ho hd (x := .ref t) rfl (?_ : wpAny _ _ (if (Value.ref t == Value.none) = true then _ else _) _ _ s))
  rw [if_neg (show ¬ (Value.ref t == Value.none) = true by simp)]
  refine (?_ : wpAny _ _ (field (.ref it) 1 >>= _) _ _ s)
  refine wpAny_bind (wpAny_field ho hd (x := .int i 0) rfl ?_)
  refine (?_ : wpAny _ _ (seqItems? (.ref t) >>= _) _ _ s)
  refine wpAny_bind (wpAny_seqItems hol hl ?_)
  simp only [Int.toNat_natCast, hx]
  refine wpAny_bind (wpAny_rule (wpAny_bind (wpAny_setField ho hd (by simp) (stop_hot (xa := xa) ⟨hh, o1, v1, ?_, d1, c1⟩ fun h' e k ty => ?_))))
  · exact (Heap.get?_update_other _ _ (Ne.symm hne)).trans h1
  · refine wpAny_bind (wpAny_isInstance (T := "StopIteration") (b := true) ty isSubtype_stop (wpAny_pure (hQ h' fun b ob hb eb => k b ob ?_)))
    exact (Heap.get?_update_other _ _ (Ne.symm hb)).trans eb
theorem unpack_hot {t xa : Addr} {its : Array Value} {Q : List Value → Shared → Prop} (hot : HotAt A xa s.heap) (ht : IsTup s.heap t its)
    (hQ : ∀ h', Heap.ExtBut s.heap.objs.size s.heap h' → Q its.toList { s with heap := h' }) : wpAny (model prog w) A (unpackItems (.ref t) its.size none) Q E s := by
  have lt : t ≠ s.heap.objs.size := by
    obtain ⟨o, ho, _⟩ := ht
    exact Nat.ne_of_lt (Heap.lt_size ho)
  obtain ⟨hh, o1, v1, h1, r1⟩ := hot
  have lx : xa ≠ s.heap.objs.size := Nat.ne_of_lt (Heap.lt_size h1)
  unfold unpackItems notIterableAtAll
  refine wpAny_bind (wpAny_bind (wpAny_specialOf ht.typeIs slot_tuple_iter.lookup (wpAny_pure ?_)))
  simp only [Bool.false_eq_true, if_false]
  refine wpAny_bind (wpAny_holding (iter_tuple ht (wpAny_bind (wpAny_holding (draw_tuple lt its.size 0 _ _ ⟨_, Heap.get?_push_size _ rfl, rfl, rfl⟩ (ht.push _) (by omega) fun h₁ i1 s1 => ?_)))))
  rw [List.drop_zero, List.take_of_length_le (by simp), if_neg (by simp)]
  refine wpAny_bind (wpAny_holding (tup_end_hot (xa := xa) ⟨hh, o1, v1, (s1.2 xa lx).trans (Heap.get?_push_of_some _ h1), r1⟩ lx i1 ((ht.push _).extBut s1.extBut lt) (by simp) fun h₂ e2 => ?_))
  simp only [Option.isSome_none, Bool.false_eq_true, if_false]
  exact wpAny_pure (hQ h₂ fun b o hb e => e2 b o hb (s1.extBut b o hb (Heap.get?_push_of_some _ e)))
end
section
variable {X : Cx} {pos : Pos}
/-- two names as targets -/
abbrev tg2 (x y : Str) (px py : Pos) (kt : _root_.Nat) (pt : Pos) : Expr := .Tuple [.Name x px, .Name y py] kt pt
theorem pe_never {e : Expr} : PE X e (fun _ _ _ => False) := ⟨fun _ _ _ _ _ _ h => h.elim⟩
/-- x, y = a, b of two local names -/
theorem ps_parH {i j : Nat} {x y : Str} {a b : Expr} {ta : TA} {px py pt : Pos} {kt k2 pt2} (hc : HotC X) (hN : X.N.Nodup) (hi : X.N[i]? = some x) (hj : X.N[j]? = some y) (hij : i ≠ j)
    (hx : X.env.scope.names.lookup x = some .local)
    (hy : X.env.scope.names.lookup y = some .local) (ha : PA X [a, b] ta)
    (hw : swappedStores [tg2 x y px py kt pt] (.Tuple [a, b] k2 pt2) X.env = pure (some [x, y])) (hs : swapsWithSole [tg2 x y px py kt pt] (.Tuple [a, b] k2 pt2) pos.line X.env = pure false := by rfl) :
    PS X (.Assign [tg2 x y px py kt pt] (.Tuple [a, b] k2 pt2) pos) (tPar i j ta) := by
  refine ⟨fun pins s σ H D I h => ?_⟩
  rw [exec_Assign_arm]
  refine wpAny_bind (wpAny_standAt ?_)
  rw [hs]
  refine wpAny_bind (wpAny_pure ?_)
  rw [if_neg Bool.false_ne_true]
  refine wpAny_bind (Tuple_ (thn (ha.run _ pins s σ H _ I h) fun us s1 z => ?_))
  obtain ⟨_, H1, I1, r1, v, u, rfl, q1⟩ := z
  match us, r1 with
  | [u1, u2], .cons rv (.cons ru .nil) =>
    refine wpAny_newObj_type ?_ (show 2 ≤ sizeLine by decide)
    have I2 := I1.kept (t' := s1.toks) fun b o e => Heap.get?_push_of_some { cls := .type "tuple", data := .seq [u1, u2].toArray } e
    obtain ⟨xa, hot⟩ := hc.at I2
    rw [hw]
    refine wpAny_bind (wpAny_pure (?_ : wpAny (model X.prog X.w) X.A (do rule "assign.swapped-stores"; let items ← unpackItems (.ref s1.heap.objs.size) 2 none; assignInOrder [fun v => bindName X.env y v, fun v => bindName X.env x v] items.reverse; pure Flow.next) _ _ _))
    refine wpAny_bind (wpAny_rule (wpAny_bind (unpack_hot (its := #[u1, u2]) hot (IsTup.new s1.heap _) fun h' e' => ?_)))
    have I3 := I2.kept (h' := h') (t' := s1.toks) fun b o e => e' b o (Nat.ne_of_lt (Heap.lt_size e)) e
    refine wpAny_bind (?_ : wpAny _ _ (assignInOrder [fun v => bindName X.env y v, fun v => bindName X.env x v] [u2, u1]) _ _ _)
    refine assignInOrder_cons (wpAny_bindName (store_ok I3 hN hj (.inl hy) ru (fun s2 I4 => assignInOrder_cons (wpAny_bindName (store_ok I4 hN hi (.inl hx) rv (fun s3 I5 => assignInOrder_nil (wpAny_pure ⟨_, H1, ?_, q1⟩)) (.inr hx)))) (.inr hy)))
    rw [List.set_comm _ _ hij]
    exact I5
end
end Tc
/-! exceptions of the text: what is known of a class; raised, told apart by their kinds -/
namespace Tc
open PySem L2 L2H PyProof.Rows Evl NdefX
/-- an own __init__ that keeps a number as its field f -/
def spX1 (C : Addr) (f : Str) : Sp := fun vs H Q _ => ∃ (a : Addr) (i : Int), vs = [.ref a, .int i] ∧ H a = some (exo a C none) ∧ i.natAbs.log2 < 1920 ∧
  ∀ d H', H d = none → d ≠ a → H' a = some (exo a C (some d)) → H' d = some (exd d [(f, .int i)]) → (∀ b o, b ≠ a → H b = some o → H' b = some o) → Q .non H'
/-- what super() asks of a def of a class -/
structure SupF (P : Program) (K : PySem.W.Frag) (mg : Str → Option Value) (C cda : Addr) : Prop where
  cd : ∃ (oc : Obj) (vs : Array Value) (file : Str) (tf : Tok), K.lookup cda = some oc ∧ oc.data = .fields vs ∧ vs[2]? = some (.str file tf) ∧ ((P.main.file : Str) == file) = true
  top : (P.main.scope.names.lookup ("super" : Str)).isSome = false
  mg : mg "super" = none
  cl : ∃ cdC : ClassData, PySem.W.clsIn K C = some cdC
  mr : PySem.W.mroIn K C (.ref C) = some true
  op : PySem.W.nsIn K cStatics "thirdparty.any" = some none
  su : PySem.W.ks_superIn K C C "__init__" = some (some (.builtin "ValueError.__init__"))
  ve : PySem.W.subIn K (.ref C) (.type "ValueError") = some true
theorem text_fits {i : Int} {x : Str} (hx : x.length ≤ 1000) (h : i.natAbs.log2 < 1920) : (x ++ Str.ofString (toString i)).length ≤ sizeLine := by
  have e0 := int_text_length_le (k := 1920) (by decide) h
  have e2 := PySem.ofString_length (toString i)
  rw [Str.length_append, sizeLine_eq]
  omega
/-- an exception of the text under its name, with what its __init__ keeps -/
def OwnE (P : Program) (w : World) (K : PySem.W.Frag) (mg : Str → Option Value) (base : Heap) (x : Str) (C : Addr) (ps : List Str) (k : Nat) (sp : Sp) : Prop :=
  ∃ (f : Addr) (fd : FuncData), FnOk P w K mg base CX0 k f fd ps sp ∧ OexC K C ∧ PySem.W.findIn K (.ref C) "__init__" = some (some (.ref f)) ∧ PySem.W.typeIn K (.ref f) = some (.type "function") ∧ mg x = some (.ref C) ∧ Binds K fd ps []
theorem ps_raiseE {X : Cx} {W : WX} {x : Str} {C : Addr} {ps : List Str} {k j : Nat} {sp : Sp} {e : Expr} {es : List Expr} {t : TA} {p pos pos' : Pos} (d : OwnE X.prog X.w X.K X.mg X.base x C ps k sp) (hc : X.calm = true) (tk : L2N.Takes X W) (hr : Room j X.A) (hj : k + 1 ≤ j) (hg : Gl X x) (ha : PA X (e :: es) t)
    (hdb : (x == ("__debug__" : Str)) = false := by decide)
    (he : starEach (e :: es) X.env = (false, eval e X.env) :: starEach es X.env := by rfl) (hpl : (backTo pos (starEach es X.env)).any (·.1) = false := by rfl) :
    PS X (.Raise (some (.Call (.Name x p) (e :: es) [] pos)) none pos') (fun _ σ H => tMkO C sp [] t σ H fun cls d H' => W cls d σ H') := by
  obtain ⟨f, fd, F, T, i, ty, hm, hb⟩ := d
  exact L2N.ps_raise hc tk (pmkN T i ty F (hr.mono hj) hb pass0 hg hm ha hdb he hpl)
def clN : List Str := ["AskedError", "ToldError", "Ended", "Held", "NoChange", "NoKey", "NoLife", "NoName", "NoPlace", "NoReading", "NoRow", "NoRows", "NoStretch", "NoTable", "NoTaker", "NoText", "NotAsked", "NotEnded", "NothingLeft", "NotOnWire", "NotSure", "TooMany", "Trimmed", "Twice", "Waits"]
def kdN : List Str := ["asked ", "told ", "Ended", "Held", "NoChange", "NoKey", "NoLife", "NoName", "NoPlace", "NoReading", "NoRow", "NoRows", "NoStretch", "NoTable", "NoTaker", "NoText", "NotAsked", "NotEnded", "NothingLeft", "NotOnWire", "NotSure", "TooMany", "Trimmed", "Twice", "Waits", "+"]
/-- which of the classes an exception of D is -/
structure Kd (K : PySem.W.Frag) (mg : Str → Option Value) (D : Addr) (fl : List Bool) : Prop where
  ck : ExK K D
  one : ∀ i x, clN[i]? = some x → ∃ c, mg x = some (.ref c) ∧ PySem.W.kitOne K (.ref D) (.ref c) = some (fl.getD i false)
  ve : PySem.W.kitOne K (.ref D) (.type "ValueError") = some (fl.getD 25 false)
def kindsL (fl : List Bool) : List Str := ((List.range 26).filter (fl.getD · false)).map (kdN.getD · "")
def spKinds (K : PySem.W.Frag) (mg : Str → Option Value) : SpP := fun p vs H Q _ => ∃ (D : Addr) (d : Option Addr) (fl : List Bool), vs = [.ref p.1] ∧ Kd K mg D fl ∧ IsEx D d p ∧ (∀ a, d = some a → ∃ fs, H a = some (.xd fs)) ∧ ∀ H', Ex H H' → Q (.str (Txt.join "" (kindsL fl))) H'
def tIs (pt : Addr × Obj) (d : Option Addr) (b : Bool) (te : TE) : TE := fun σ H Q => te σ H fun v H1 => v = .ref pt.1 ∧ (∀ a, d = some a → ∃ fs, H1 a = some (.xd fs)) ∧ Q (.bl b) H1
theorem xs_ex {d : Option Addr} {H H' : Hp} (x : Ex H H') (h : ∀ a, d = some a → ∃ fs, H a = some (.xd fs)) : ∀ a, d = some a → ∃ fs, H' a = some (.xd fs) := fun a e => by
  obtain ⟨fs, y⟩ := h a e
  exact ⟨fs, x a _ y⟩
theorem ev_is1 {pt : Addr × Obj} {d : Option Addr} {b : Bool} {te : TE} {σ : L2.St} {H : Hp} (h : Ev te σ H (.ref pt.1)) (hd : ∀ a, d = some a → ∃ fs, H a = some (.xd fs)) : Ev (tIs pt d b te) σ H (.bl b) := fun H1 e Q q => h H1 e _ fun H2 e2 => ⟨rfl, xs_ex (e.trans e2) hd, q H2 e2⟩
theorem el_catV {p : Addr} {xs ys : List V} {ta tb : TE} {σ : L2.St} {H : Hp} (ha : Ev ta σ H (.ref p)) (hp : H p = some (.lst xs)) (hb : EvL tb σ H ys) (hl : xs.length + ys.length ≤ 100000) : EvL (tOp rCat ta tb) σ H (xs ++ ys) := fun H1 e Q q =>
  ha H1 e _ fun H2 e2 => hb H2 (e.trans e2) _ fun p2 H3 n2 e3 h3 => ⟨p, p2, xs, ys, rfl, rfl, (e2.trans e3) p _ (e p _ hp), h3, sz_of hl, fun l hn => q l _ (fresh_back (e2.trans e3) hn) ((e2.trans e3).trans (Ex.new hn)) upd_same⟩
section
variable {X : Cx} {D : Addr} {d : Option Addr} {pt : Addr × Obj} {y : Str} {te : TE} {p p1 p2 pos : Pos} {b : Bool}
theorem pe_is1 {x : Str} {i : Nat} (C : ExK X.K D) (hp : pt ∈ X.pn) (hx : IsEx D d pt) (gi : Gl X "isinstance") (ni : X.mg "isinstance" = none) (g : Gl X x) (hm : ∃ c, X.mg x = some (.ref c) ∧ PySem.W.kitOne X.K (.ref D) (.ref c) = some b) (he : PE X (.Name y p1) (tVar i))
    (hd : (x == ("__debug__" : Str)) = false := by decide) : PE X (.Call (.Name "isinstance" p) [.Name y p1, .Name x p2] [] pos) (tIs pt d b (tVar i)) := by
  obtain ⟨c, hm, hk⟩ := hm
  have r := pe_callB (pos := pos) (p := p) (call_isP C hp hx) gi ni boot_isinstance (pa_cons he (pa_cons (pe_glob (pos := p2) (v := .ref c) g hm rfl hd) pa_nil))
  refine ⟨fun pins s σ H Q I h => r.run pins s σ H Q I ?_⟩
  obtain ⟨v, h1, rfl, h2, q⟩ := h
  exact ⟨_, h1, .ref c, .ref c, b, rfl, fun u z => z, h2, hk, q⟩
theorem pe_isV {i : Nat} (C : ExK X.K D) (hp : pt ∈ X.pn) (hx : IsEx D d pt) (gi : Gl X "isinstance") (ni : X.mg "isinstance" = none) (g : Gl X "ValueError") (hm : X.mg "ValueError" = none) (hk : PySem.W.kitOne X.K (.ref D) (.type "ValueError") = some b) (he : PE X (.Name y p1) (tVar i)) : PE X (.Call (.Name "isinstance" p) [.Name y p1, .Name "ValueError" p2] [] pos) (tIs pt d b (tVar i)) := by
  have r := pe_callB (pos := pos) (p := p) (call_isP C hp hx) gi ni boot_isinstance (pa_cons he (pa_cons (pe_bltn (pos := p2) (v := .ty "ValueError") g hm PyProof.Rows.Boot.«ValueError» rfl) pa_nil))
  refine ⟨fun pins s σ H Q I h => r.run pins s σ H Q I ?_⟩
  obtain ⟨v, h1, rfl, h2, q⟩ := h
  exact ⟨_, h1, .ty "ValueError", .type "ValueError", b, rfl, fun u z => z, h2, hk, q⟩
end
theorem sum_le {l : List Str} (h : ∀ y ∈ l, y.length ≤ 20) : (l.map (·.length)).sum ≤ 20 * l.length := by
  induction l with
  | nil => exact Nat.le_refl _
  | cons a l ih =>
    have h1 := h a List.mem_cons_self
    have h2 := ih fun y m => h y (List.mem_cons_of_mem _ m)
    rw [List.map_cons, List.sum_cons, List.length_cons]
    omega
theorem kd_len : ∀ i, (kdN.getD i "").length ≤ 20 := fun i => by
  have all : ∀ y ∈ kdN, y.length ≤ 20 := by decide +kernel
  rw [List.getD_eq_getElem?_getD]
  cases e : kdN[i]? with
  | none => exact (by decide +kernel : (Str.ofString "").length ≤ 20)
  | some y => exact all y (List.mem_of_getElem? e)
theorem kinds_len (fl : List Bool) : (kindsL fl).length ≤ 26 := by
  unfold kindsL
  rw [List.length_map]
  exact Nat.le_trans (List.length_filter_le _ _) (by rw [List.length_range]; exact Nat.le_refl _)
theorem flags_eq (g : Nat → V) : [g 0, g 1, g 2, g 3] ++ [g 4, g 5, g 6, g 7] ++ [g 8, g 9, g 10, g 11] ++ [g 12, g 13, g 14, g 15] ++ [g 16, g 17, g 18] ++ [g 19, g 20, g 21, g 22] ++ [g 23, g 24, g 25] = (List.range 26).map g := rfl
theorem kinds_end {K : PySem.W.Frag} {H : Hp} {p6 p9 : Addr} {fl : List Bool} {v : V} {D : Ends} (h6 : H p6 = some (.lst ((List.range 26).map fun i => V.bl (fl.getD i false)))) (h9 : H p9 = some (.lst (kdN.map V.str))) (q : ∀ H', Ex H H' → D.rt (.str (Txt.join "" (kindsL fl))) H') :
    tRet (tM1 (fun x xs H Q => ∃ a p, ∃ ys : List Str, x = .str a ∧ xs = [.ref p] ∧ (SqL K H p (ys.map V.str) ∨ SqT K H p (ys.map V.str)) ∧ (ys.map (·.length)).sum + ys.length * a.length ≤ 16777216 ∧ Q (.str (Txt.join a ys)) H) (tC (.str "")) (tLc (iRng1 (tCons (tC (.int 26)) tNil)) (gName 3) (tB (tOp (rIxL K) (tVar 1) (tVar 3))) (tOp (rIxL K) (tVar 2) (tVar 3)) [3])) D [some v, some (.ref p6), some (.ref p9), none] H := by
  refine ⟨⟨_, rfl⟩, ?_⟩
  have hS : ∀ i : Nat, i < 26 → ((List.range 26).map fun i => V.bl (fl.getD i false))[i]? = some (.bl (fl.getD i false)) := fun i hi => by
    rw [List.getElem?_map, List.getElem?_range hi]
    rfl
  have hW : ∀ i : Nat, i < 26 → (kdN.map V.str)[i]? = some (.str (kdN.getD i "")) := fun i hi => by
    have hi2 : i < kdN.length := hi
    rw [List.getElem?_map, List.getD_eq_getElem?_getD, List.getElem?_eq_getElem hi2]
    rfl
  refine el_lcR1 (n := 26) (σ := [some v, some (.ref p6), some (.ref p9), none]) (fun i => fl.getD i false) (fun i => V.str (kdN.getD i "")) (ea_cons ev_c ea_nil) (by decide) (fun x => rfl) (fun i H1 e hi => et_B (ev_lx (ev_var rfl) (ev_var rfl) (sq_of (e p6 _ h6)) (hS i (by omega)))) (fun i H1 e hi _ => ev_lx (ev_var rfl) (ev_var rfl) (sq_of (e p9 _ h9)) (hW i (by omega))) H (Ex.refl _) _ fun pl Hl nl el hl => ?_
  refine ⟨"", pl, kindsL fl, rfl, rfl, .inl (sq_of ?_), ?_, q Hl el⟩
  · rw [hl]
    unfold kindsL given
    rw [List.map_map]
    rfl
  · have a := sum_le (l := kindsL fl) fun y m => by
      obtain ⟨i, _, rfl⟩ := List.mem_map.mp m
      exact kd_len i
    have b := kinds_len fl
    have c : (Str.ofString "").length = 0 := by decide +kernel
    rw [c]
    omega
/-- what the exceptions of class C are called -/
structure ExC (K : PySem.W.Frag) (mg : Str → Option Value) (x : Str) (C : Addr) (fl : List Bool) : Prop where
  kd : Kd K mg C fl
  xf : XfC K C
  em : PySem.W.exmOne K (.ref C) (.ref C) = some true
  nm : mg x = some (.ref C)
def tKn (K : PySem.W.Frag) (mg : Str → Option Value) (a : Addr) (cls : Value) (d : Option Addr) (i : Nat) : TE := fun σ H Q => σ[i]? = some (some (.ref a)) ∧ ∃ (D : Addr) (fl : List Bool), cls = .ref D ∧ Kd K mg D fl ∧ (∀ b, d = some b → ∃ fs, H b = some (.xd fs)) ∧ ∀ H', Ex H H' → Q (.str (Txt.join "" (kindsL fl))) H'
theorem hot_suite {X : Cx} {a : Addr} {oe : Obj} {cls : Value} {d : Option Addr} {pn : List (Addr × Obj)} (hz : L2N.Zn cls d oe) (hf : ∃ vs, oe.data = .fields vs) : HotP (X.suite a ((a, oe) :: pn)) (a, oe) := by
  obtain ⟨vs, hv⟩ := hf
  exact ⟨⟨rfl, vs, hv, hz.2.2 vs hv⟩, List.mem_cons_self⟩
theorem pe_kn {X : Cx} {a : Addr} {oe : Obj} {cls : Value} {d : Option Addr} {pn : List (Addr × Obj)} {i j k : Nat} {y : Str} {p p1 pos : Pos} (hz : L2N.Zn cls d oe) (hf : ∃ vs, oe.data = .fields vs) (dK : OwnP X.prog X.w X.K X.mg X.base "_law_kinds" ["e"] k (spKinds X.K X.mg)) (hr : Room j X.A) (hj : k ≤ j) (hg : Gl X "_law_kinds") (he : PE (X.suite a ((a, oe) :: pn)) (.Name y p1) (tVar i)) :
    PE (X.suite a ((a, oe) :: pn)) (.Call (.Name "_law_kinds" p) [.Name y p1] [] pos) (tKn X.K X.mg a cls d i) := by
  have r := pe_ownP (X := X.suite a ((a, oe) :: pn)) (p := p) (pos := pos) dK (hot_suite hz hf) (roomH_mark hr _) hj hg (pa_cons he pa_nil)
  refine ⟨fun pins s σ H Q I h => r.run pins s σ H Q I ?_⟩
  obtain ⟨h1, D, fl, e, kd, hx, q⟩ := h
  subst e
  exact ⟨_, h1, D, d, fl, rfl, kd, ⟨hz.1, hz.2.1, hf⟩, hx, q⟩
/-! by looking -/
def kdB (K : PySem.W.Frag) (D : Addr) (fl : List Bool) : Bool := (List.range 25).all fun i => match PySem.W.nsIn K mainGlobals (clN.getD i "") with
  | some (some (.ref c)) => decide (PySem.W.kitOne K (.ref D) (.ref c) = some (fl.getD i false))
  | _ => false
def exkB (K : PySem.W.Frag) (D : Addr) : Bool := (PySem.W.clsIn K D).isSome && (decide (PySem.W.findIn K (.ref D) "__getattribute__" = some (some (.builtin "BaseException.__getattribute__"))) && (decide (PySem.W.findIn K (.ref D) "__getattr__" = some none) && (decide (PySem.W.subIn K (.ref D) (.type "BaseException") = some true) &&
  (decide (PySem.W.findIn K (.ref D) "__class__" = some (some (.builtin "object.__class__"))) && (decide (PySem.W.specialIn K (.builtin "object.__class__") "__get__" = some (some (.builtin "getset_descriptor.__get__"))) && (decide (PySem.W.takesIn K (.builtin "object.__class__") = some true) && decide (PySem.W.mroIn K D (.type "object") = some true)))))))
theorem exkB_ok {K : PySem.W.Frag} {D : Addr} (h : exkB K D = true) : ExK K D := by
  obtain ⟨y1, h⟩ := Bool.and_eq_true_iff.mp h
  obtain ⟨y2, h⟩ := Bool.and_eq_true_iff.mp h
  obtain ⟨y3, h⟩ := Bool.and_eq_true_iff.mp h
  obtain ⟨y4, h⟩ := Bool.and_eq_true_iff.mp h
  obtain ⟨y5, h⟩ := Bool.and_eq_true_iff.mp h
  obtain ⟨y6, h⟩ := Bool.and_eq_true_iff.mp h
  obtain ⟨y7, y8⟩ := Bool.and_eq_true_iff.mp h
  exact ⟨y1, of_decide_eq_true y2, of_decide_eq_true y3, of_decide_eq_true y4, of_decide_eq_true y5, of_decide_eq_true y6, of_decide_eq_true y7, of_decide_eq_true y8⟩
/-- all that is to be known of a class C, when its kinds are fl -/
def excB (K : PySem.W.Frag) (C : Addr) (fl : List Bool) : Bool := kdB K C fl && (exkB K C && (xfB K C && (decide (PySem.W.kitOne K (.ref C) (.type "ValueError") = some (fl.getD 25 false)) && decide (PySem.W.exmOne K (.ref C) (.ref C) = some true))))
theorem kdB_ok {K : PySem.W.Frag} {h : Heap} {mg : Str → Option Value} {D : Addr} {fl : List Bool} (X : K.In h) (G : h.Ns mainGlobals mg) (e : kdB K D fl = true) : ∀ i x, clN[i]? = some x → ∃ c, mg x = some (.ref c) ∧ PySem.W.kitOne K (.ref D) (.ref c) = some (fl.getD i false) := by
  intro i x hx
  have hi : i < 25 := (List.getElem?_eq_some_iff.mp hx).1
  have e := List.all_eq_true.mp e i (List.mem_range.mpr hi)
  rw [show clN.getD i "" = x by rw [List.getD_eq_getElem?_getD, hx]; rfl] at e
  split at e
  · rename_i c hc
    exact ⟨c, PySem.W.mg_of X G hc, of_decide_eq_true e⟩
  · cases e
theorem excB_ok {K : PySem.W.Frag} {h : Heap} {mg : Str → Option Value} {x : Str} {C : Addr} {fl : List Bool} (X : K.In h) (G : h.Ns mainGlobals mg) (a : PySem.W.nsIn K mainGlobals x = some (some (.ref C))) (e : excB K C fl = true) : ExC K mg x C fl := by
  obtain ⟨y1, h⟩ := Bool.and_eq_true_iff.mp e
  obtain ⟨y2, h⟩ := Bool.and_eq_true_iff.mp h
  obtain ⟨y3, h⟩ := Bool.and_eq_true_iff.mp h
  obtain ⟨y4, y5⟩ := Bool.and_eq_true_iff.mp h
  exact ⟨⟨exkB_ok y2, kdB_ok X G y1, of_decide_eq_true y4⟩, xfB_ok y3, of_decide_eq_true y5, PySem.W.mg_of X G a⟩
/-- what is to be known that it may be made -/
def oexB (K : PySem.W.Frag) (C : Addr) : Bool := decide (PySem.W.findIn K (.ref C) "__setattr__" = some (some (.builtin "object.__setattr__"))) && (decide (PySem.W.subIn K (.ref C) (.type "BaseException") = some true) && (decide (PySem.W.typeIn K (.ref C) = some (.type "type")) && PySem.W.keepIn K (.ref C)))
theorem oexB_ok {K : PySem.W.Frag} {C N : Addr} {nm q : Str} {bs bm : List Value} {sn sub ab col dd k0 k1 k2 k3 k5} (xL : K.lookup C = some (excClassObj nm q C N bs bm true sn sub ab col dd k0 k1 k2 k3 k5 "ValueError.__new__")) (xR : PySem.HandSPX.refsVE bm = true) (e : oexB K C = true) : OexC K C := by
  obtain ⟨y1, h⟩ := Bool.and_eq_true_iff.mp e
  obtain ⟨y2, h⟩ := Bool.and_eq_true_iff.mp h
  obtain ⟨y3, y4⟩ := Bool.and_eq_true_iff.mp h
  exact ⟨⟨nm, q, N, bs, bm, sn, sub, ab, col, dd, k0, k1, k2, k3, k5, xL, xR⟩, of_decide_eq_true y1, of_decide_eq_true y2, of_decide_eq_true y3, y4⟩
/-- what super() asks, by looking -/
def supB (K : PySem.W.Frag) (file : Str) (C cda : Addr) : Bool := (match K.lookup cda with
    | some ⟨_, _, .fields vs, _⟩ => (match (vs[2]? : Option Value) with | some (.str f _) => file == f | _ => false)
    | _ => false) && ((PySem.W.clsIn K C).isSome && (decide (PySem.W.mroIn K C (.ref C) = some true) && (decide (PySem.W.nsIn K cStatics "thirdparty.any" = some none) && (decide (PySem.W.ks_superIn K C C "__init__" = some (some (.builtin "ValueError.__init__"))) && (decide (PySem.W.subIn K (.ref C) (.type "ValueError") = some true) && decide (PySem.W.nsIn K mainGlobals "super" = some none))))))
theorem supB_ok {P : Program} {K : PySem.W.Frag} {h : Heap} {mg : Str → Option Value} {C cda : Addr} (X : K.In h) (G : h.Ns mainGlobals mg) (top : (P.main.scope.names.lookup ("super" : Str)).isSome = false) (e : supB K P.main.file C cda = true) : SupF P K mg C cda := by
  obtain ⟨y1, h⟩ := Bool.and_eq_true_iff.mp e
  obtain ⟨y2, h⟩ := Bool.and_eq_true_iff.mp h
  obtain ⟨y3, h⟩ := Bool.and_eq_true_iff.mp h
  obtain ⟨y4, h⟩ := Bool.and_eq_true_iff.mp h
  obtain ⟨y5, h⟩ := Bool.and_eq_true_iff.mp h
  obtain ⟨y6, y7⟩ := Bool.and_eq_true_iff.mp h
  refine ⟨?_, top, PySem.W.mg_none_of X G (of_decide_eq_true y7), Option.isSome_iff_exists.mp y2, of_decide_eq_true y3, of_decide_eq_true y4, of_decide_eq_true y5, of_decide_eq_true y6⟩
  split at y1
  · rename_i c d vs sl hl
    split at y1
    · rename_i f t hv
      exact ⟨_, vs, f, t, hl, rfl, hv, y1⟩
    · cases y1
  · cases y1
end Tc
/-! data of a known depth: such data can be compared, and are like themselves -/
namespace Tc
open PySem L2 PyProof.Rows Evl
def sd : Nat → PyData → Bool
  | _, .none => true
  | _, .bool _ => true
  | _, .int _ => true
  | _, .str s => PyData.strOk s
  | n + 1, .list xs => xs.all (sd n)
  | n + 1, .tuple xs => xs.all (sd n)
  | _, _ => false
theorem sd_ok : ∀ (n : Nat) (d : PyData), sd n d = true → PyData.canLay0 d = true ∧ d.depth ≤ n ∧ PyData.eqv d d = true := by
  intro n
  induction n with
  | zero =>
    intro d h
    cases d with
    | none => exact ⟨rfl, Nat.le_refl _, rfl⟩
    | bool b => exact ⟨rfl, Nat.le_refl _, by simp [PyData.eqv]⟩
    | int i => exact ⟨rfl, Nat.le_refl _, by simp [PyData.eqv]⟩
    | str s => exact ⟨h, Nat.le_refl _, by simp [PyData.eqv]⟩
    | list xs => cases h
    | tuple xs => cases h
    | dict xs => cases h
  | succ n ih =>
    have all : ∀ xs : List PyData, xs.all (sd n) = true → PyData.canLayAll0 xs = true ∧ PyData.depthAll xs ≤ n ∧ PyData.eqvAll xs xs = true := by
      intro xs
      induction xs with
      | nil => exact fun _ => ⟨rfl, Nat.zero_le _, rfl⟩
      | cons x xs ihx =>
        intro h
        rw [List.all_cons, Bool.and_eq_true] at h
        obtain ⟨a1, a2, a3⟩ := ih x h.1
        obtain ⟨b1, b2, b3⟩ := ihx h.2
        rw [PyData.canLayAll0, PyData.depthAll, PyData.eqvAll, a1, b1, a3, b3]
        exact ⟨rfl, Nat.max_le.mpr ⟨a2, b2⟩, rfl⟩
    intro d h
    cases d with
    | none => exact ⟨rfl, Nat.zero_le _, rfl⟩
    | bool b => exact ⟨rfl, Nat.zero_le _, by simp [PyData.eqv]⟩
    | int i => exact ⟨rfl, Nat.zero_le _, by simp [PyData.eqv]⟩
    | str s => exact ⟨h, Nat.zero_le _, by simp [PyData.eqv]⟩
    | list xs =>
      obtain ⟨a1, a2, a3⟩ := all xs h
      rw [PyData.canLay0, PyData.depth, PyData.eqv]
      exact ⟨a1, by omega, a3⟩
    | tuple xs =>
      obtain ⟨a1, a2, a3⟩ := all xs h
      rw [PyData.canLay0, PyData.depth, PyData.eqv]
      exact ⟨a1, by omega, a3⟩
    | dict xs => cases h
theorem sd_sh {n : Nat} {d : PyData} (h : sd n d = true) (hn : n ≤ 64) : SeqAt.shaped d = true := by
  obtain ⟨a, b, _⟩ := sd_ok n d h
  unfold SeqAt.shaped
  rw [a, decide_eq_true (Nat.le_trans b hn)]
  rfl
theorem sd_eq {n : Nat} {d : PyData} (h : sd n d = true) : PyData.eqv d d = true := (sd_ok n d h).2.2
theorem sd_up {n m : Nat} {d : PyData} (h : sd n d = true) (hm : n ≤ m) : sd m d = true := by
  induction n generalizing m d with
  | zero =>
    cases d <;> cases m <;> first | exact h | rfl | cases h
  | succ n ih =>
    obtain ⟨m, rfl⟩ : ∃ k, m = k + 1 := ⟨m - 1, by omega⟩
    cases d with
    | list xs => exact List.all_eq_true.mpr fun x hx => ih (List.all_eq_true.mp h x hx) (by omega)
    | tuple xs => exact List.all_eq_true.mpr fun x hx => ih (List.all_eq_true.mp h x hx) (by omega)
    | dict xs => cases h
    | none => rfl
    | bool b => rfl
    | int i => rfl
    | str s => exact h
theorem sd_ints (js : List Int) : sd 1 (.list (js.map PyData.int)) = true := List.all_eq_true.mpr fun x hx => by
  obtain ⟨i, _, rfl⟩ := List.mem_map.mp hx
  rfl
theorem sd_rows (rs : List (Int × Int)) : sd 2 (rowsD rs) = true := List.all_eq_true.mpr fun x hx => by
  obtain ⟨i, _, rfl⟩ := List.mem_map.mp hx
  rfl
theorem sd_ch {ks : List Int} {c : PyData} (h : goodCh ks c = true) : sd 1 c = true := by
  unfold goodCh at h
  split at h
  · rename_i s k
    rw [Bool.and_eq_true] at h
    rw [of_decide_eq_true h.1]
    show (PyData.strOk "drop" && (true && true)) = true
    decide +kernel
  · rename_i s k z
    rw [Bool.and_eq_true] at h
    rw [of_decide_eq_true h.1]
    show (PyData.strOk "put" && (true && (true && true))) = true
    decide +kernel
  · cases h
theorem sd_en {ks : List Int} {d : PyData} (h : goodEn ks d = true) : sd 3 d = true := by
  unfold goodEn at h
  split at h
  · rename_i s cs
    rw [Bool.and_eq_true, List.all_eq_true] at h
    rw [of_decide_eq_true h.1]
    show (PyData.strOk "group" && (cs.all (sd 1) && true)) = true
    rw [show cs.all (sd 1) = true from List.all_eq_true.mpr fun c m => sd_ch (h.2 c m)]
    decide +kernel
  · rename_i s i j
    rw [Bool.and_eq_true] at h
    show (PyData.strOk s && (true && (true && true))) = true
    rw [h.2]
    rfl
  · cases h
/-- two things that turn out to be the same data are not unlike -/
theorem ne_ex {K : PySem.W.Frag} {H : Hp} {σ : L2.St} {te tb : TE} {Q : Bool → Hp → Prop} {n : Nat} (S : PyData → Prop) (h : ∀ Q' : VK, (∀ v d H', Ex H H' → Dp K H' v d → S d → Q' v H') → te σ H Q') (hb : ∀ d H1, S d → Ex H H1 → ∀ Q' : VK, (∀ v H', Ex H1 H' → Dp K H' v d → Q' v H') → tb σ H1 Q') (hs : ∀ d, S d → sd n d = true) (hn : n ≤ 64) (q : ∀ H', Ex H H' → Q false H') : tTest (tOp (rNeD K) te tb) σ H Q :=
  h _ fun v d H1 x1 d1 sd1 => hb d H1 sd1 x1 _ fun v2 H2 x2 d2 => ⟨d, d, dp_same x2 _ _ d1, d2, sd_sh (hs d sd1) hn, sd_sh (hs d sd1) hn, by
    rw [sd_eq (hs d sd1)]
    exact ⟨false, rfl, q H2 (x1.trans x2)⟩⟩
theorem ne_sd {K : PySem.W.Frag} {H : Hp} {σ : L2.St} {te tb : TE} {Q : Bool → Hp → Prop} {n : Nat} (d : PyData) (h : ∀ Q' : VK, (∀ v H', Ex H H' → Dp K H' v d → Q' v H') → te σ H Q') (hb : ∀ H1, Ex H H1 → ∀ Q' : VK, (∀ v H', Ex H1 H' → Dp K H' v d → Q' v H') → tb σ H1 Q') (hs : sd n d = true) (hn : n ≤ 64) (q : ∀ H', Ex H H' → Q false H') : tTest (tOp (rNeD K) te tb) σ H Q :=
  ne_ex (fun e => e = d) (fun Q' q' => h Q' fun v H' x y => q' v d H' x y rfl) (fun e H1 z x Q' q' => hb H1 x Q' fun v H' x y => q' v H' x (z ▸ y)) (fun e z => z ▸ hs) hn q
theorem sd_3 {n : Nat} {d e : PyData} {s : Str} (h1 : sd n d = true) (h2 : PyData.strOk s = true) (h3 : sd n e = true) : sd (n + 1) (.tuple [d, .str s, e]) = true := by
  show (sd n d && (sd n (.str s) && (sd n e && true))) = true
  rw [h1, h3, show sd n (.str s) = true by cases n <;> exact h2]
  rfl
/-- a list gone through, made as we please -/
theorem for_of {K : PySem.W.Frag} {tl : TE} {σ : L2.St} {H : Hp} {R : It → Hp → Prop} (k : ∀ Q' : VK, (∀ (a : Addr) (xs : List V) (H1 : Hp), SqL K H1 a xs → R (Itl K a) H1 → Q' (.ref a) H1) → tl σ H Q') : iList K tl σ H R := k _ fun a xs H1 hs w => ⟨a, rfl, ⟨xs, hs⟩, w⟩
theorem lst_of {ta : TA} {σ : L2.St} {H : Hp} {Q : VK} (k : ta σ H fun vs H1 => vs.length ≤ sizeLine ∧ ∀ p, H1 p = none → Q (.ref p) (upd H1 p (.lst vs))) : tLst ta σ H Q := k
theorem cons_of {te : TE} {ta : TA} {σ : L2.St} {H : Hp} {Q : List V → Hp → Prop} (k : te σ H fun v H1 => ta σ H1 fun vs H2 => Q (v :: vs) H2) : tCons te ta σ H Q := k
theorem sd_log {ks : List Int} {ds : List PyData} (h : ∀ d ∈ ds, goodEn ks d = true) : sd 4 (.list ds) = true := List.all_eq_true.mpr fun d m => sd_en (h d m)
end Tc
/-! len(x) of an object of the program's own, by its __len__ -/
namespace Tc
open PySem PySem.Spec PyProof.Rows L2
def rLenO (C : Addr) (sp : Sp) : List V → Hp → VK → Prop := fun vs H Q => ∃ (a dx : Addr) (fs : List (Str × V)), vs = [V.ref a] ∧ H a = some (.ins C dx fs) ∧ sp [.ref a] H (fun v H' => ∃ m : Nat, m ≤ 100000 ∧ v = .int (m : Int) ∧ Q (.int (m : Int)) H') E0
theorem cr_lenO {X : Cx} {C f : Addr} {fd : FuncData} {n : Nat} {sp : Sp} (hr : Room (n + 1) X.A) (hl : Meth X.K C "__len__" f) (F : FnOk X.prog X.w X.K X.mg X.base CX0 n f fd ["self"] sp) (hb : Binds X.K fd ["self"] []) : CallR X (.builtin "len") (rLenO C sp) := by
  intro pins s σ H vs us Q I r ⟨a, dx, fs, e0, ha, hsp⟩
  subst e0
  rw [Vals.ref1 r]
  obtain ⟨_, inst, _⟩ := ins_get I.hok ha
  obtain ⟨_, inst, _⟩ := inst.look
  refine Calls.call_function_entry (kind_len) plain_len entry_len (args_len1 _) ?_
  unfold Builtin.«len»
  refine wpAny_bind (m := oneArg "len" _) (wpAny_pure (wpAny_bind (m := callSpecial? (.ref a) (Str.ofString "__len__")) ?_))
  unfold callSpecial? specialOf
  refine wpAny_bind (wpAny_bind (inst.type.here ((PySem.W.looks_findIn I.kIn hl.at_).here ?_)))
  refine wpAny_holding ?_
  refine wpAny_bind ((PySem.W.bind_fn I.kIn _ (beq_iff_eq.mp hl.fn)).here ?_)
  refine wpAny_bind ?_
  have env : Env0 X.prog X.w X.K X.mg X.base X.A.in1 X.stack s H := by
    have e := I.env0
    exact ⟨e.frames, e.mod, e.bs, e.bsz, e.funs, e.frf, e.hok, e.bare⟩
  have one : Vals [V.ref a] [Value.ref a] := .cons rfl .nil
  refine wpAny_call (codeAny_mono (F.run X.A.in1 X.stack s H ⟨[.ref a], []⟩ [.ref a] [.ref a] _ E0 hr.in1 env (by
    have := hb s [.ref a] I.kIn rfl
    simpa using this) one hsp) fun res s' hq => ?_)
  cases res with
  | error e => exact pass0 pins σ H s e s' I hq
  | ok fl =>
    cases fl with
    | next => exact hq.elim
    | brk => exact hq.elim
    | cont => exact hq.elim
    | ret u =>
      obtain ⟨v, H', I', rv, m, hm, ev, q⟩ := I.after hq
      subst ev
      obtain ⟨t, rfl⟩ := (show ∃ t, u = Value.int (m : Int) t from rv)
      refine wpAny_pure (wpAny_bind (wpAny_holding (wpAny_pure (wpAny_bind (wpAny_letGo ?_)))))
      show wpAny _ _ (if ((m : Nat) : Int) < 0 then _ else _) _ _ _
      rw [if_neg (by omega)]
      show wpAny _ _ (if ((m : Nat) : Int) ≥ 2 ^ 63 then _ else _) _ _ _
      rw [if_neg (by omega)]
      exact wpAny_bind (wpAny_mkInt (wpAny_pure ⟨_, rfl, .int (m : Int), H', I'.tok _, ⟨_, rfl⟩, q⟩))
end Tc
/-! a field as a target among others: x.f, y = .. -/
namespace Tc
open PySem PySem.Spec PyProof.Rows L2
def gFldT (K : PySem.W.Frag) (ta : TE) (f : Str) : TG := fun y σ H Q => ta σ H fun x H2 => ∃ a C dx fs, x = .ref a ∧ H2 a = some (.ins C dx fs) ∧ Cls K C ∧ NoAttr K C f ∧ fs.length < 1000 ∧ Q σ (upd H2 a (.ins C dx (putF f y fs)))
theorem pg_fldT {X : Cx} {o : Expr} {f : Str} {ta : TE} {pos : Pos} (ha : PE X o ta) : PG X (.Attribute o f pos) (gFldT X.K ta f) := by
  refine ⟨fun pins s σ H v u Q I r h => ?_⟩; rw [assign_Attribute]
  refine wpAny_bind (wpAny_holding (thn (ha.run pins s σ H _ I h) fun ov s1 ⟨x, H1, I1, rx, a, C, dx, fs, ex, ea, c, n, l, q⟩ => ?_))
  subst ex; obtain rfl : ov = Value.ref a := rx
  refine wpAny_bind (wpAny_standAt (wpAny_bind (wpAny_holding (setattr_ok I1 ea c n l r fun s3 I3 => ?_))))
  exact wpAny_release ⟨σ, _, I3, q⟩
end Tc
/-! d.update(d2) -/
namespace Tc
open PySem PySem.Spec PyProof.Rows L2
def rDUpd : V → List V → Hp → VK → Prop := fun x vs H Q => ∃ (a b : Addr) (kvs more : List (Key × V)), x = .ref a ∧ vs = [.ref b] ∧ a ≠ b ∧ H a = some (.dK kvs) ∧ H b = some (.dK more) ∧ kvs.length + more.length ≤ 100000 ∧ Q .non (upd H a (.dK (mergeK kvs more)))
theorem mt_dupd {X : Cx} : MtR X "dict.update" rDUpd := by
  intro pins s σ H x vs v us Q I rx rv ⟨a, b, kvs, more, ex, ev, ab, ha, hb, few, q⟩
  subst ex
  subst ev; obtain rfl : v = Value.ref a := rx
  rw [Vals.ref1 rv]
  obtain ⟨z1, s1, vs1, rel1, dd1⟩ := dk_of I.hok ha
  obtain ⟨z2, s2, vs2, rel2, dd2⟩ := dk_of I.hok hb
  have room : 100000 ≤ sizeLine := by decide
  refine call_meetsIn PySem.F.slot_dict_update dd1.typeIs PySem.F.entry_dict_update (PySem.F.args_dict_update_2 _ _) (meets_dict_update (mixKind X.prog X.w) a b ab s2) ⟨vs1, vs2, dd1, dd2, by rw [← rel1.length, ← rel2.length]; omega, fun h' dd' _ hs => ?_⟩
  have he : ∃ o, h'.get? a = some o := let ⟨o, _, _, ho, _⟩ := dd'; ⟨o, ho⟩
  have hl : (mergeK kvs more).length ≤ sizeLine := Nat.le_trans (length_mergeK more kvs) (by omega)
  exact ⟨.non, _, d_write (t' := s.toks) I (by rw [ha]; exact True.intro) hs he (dk_new hl s1 (KV.merge rel2 rel1) dd'), rfl, q⟩
end Tc
/-! a tuple that is written, known to have no dict of its own -/
namespace Tc
open PySem PySem.Spec PyProof.Rows L2
def tTupF (t : TA) : TE := fun σ H Q => t σ H fun xs H1 => xs.length ≤ sizeLine ∧ ∀ (p : Addr) (o : Obj), H1 p = none → o.dict = none → Q (.ref p) (upd H1 p (.frz o (.tup xs)))
theorem pe_tupF {X : Cx} {es : List Expr} {t : TA} {pos : Pos} {x1} (h : PA X es t) : PE X (.Tuple es x1 pos) (tTupF t) := ⟨fun pins s σ H Q I want => by
  refine wpAny_Tuple_spliced (thn (h.run pos pins s σ H _ I want) fun us s1 ⟨xs, H1, I1, r, size, go⟩ => ⟨by rw [← r.length]; exact size, ?_⟩)
  have new := I1.hok.fresh (Nat.le_refl s1.heap.objs.size)
  refine ⟨.ref s1.heap.objs.size, _, I1.laid (a := s1.heap.objs.size) (t' := s1.toks) (fun b u e => Heap.get?_push_of_some _ e) (Nat.le_refl _) ?_, rfl, go _ { cls := .type "tuple", data := .seq us.toArray } new rfl⟩
  exact (show ObjOk X.prog X.w _ _ _ (.frz _ (.tup xs)) from ⟨Heap.get?_push_size _ rfl, size, us, r, IsTup.new _ _⟩)⟩
end Tc
/-! defs with names behind a star that may let an exception out; a part of a tuple that has no dict -/
namespace Tc
open PySem PySem.Spec PyProof.Rows L2
def tCallXN (n m : Nat) (sp : Sp) (E : L2.St → XK) (t tk : TA) : TE := fun σ H Q => t σ H fun vs H1 => tk σ H1 fun zs H2 => vs.length = n ∧ zs.length = m ∧ sp (vs ++ zs) H2 Q (E σ)
/-- called by a name behind the star, or without: then it has its default -/
def OwnXN (P : Program) (w : World) (K : PySem.W.Frag) (mg : Str → Option Value) (base : Heap) (x : Str) (ps : List Str) (n : Nat) (ns : List Str) (dvs : List V) (k : Nat) (sp : Sp) : Prop :=
  ∃ (f : Addr) (fd : FuncData) (ds : List Value), FnOk P w K mg base (L2N.CX P w) k f fd ps sp ∧ mg x = some (.ref f) ∧ PySem.W.keepIn K (.ref f) = true ∧ KBn K fd ps n ns (· ++ ·) (· ++ ·) ∧ Vals dvs ds ∧ Binds K fd ps ds
section
variable {X : Cx} {W : WX} {x : Str} {ps ns : List Str} {dvs : List V} {n k j : Nat} {sp : Sp} {e : Expr} {es : List Expr} {kws : List Keyword} {t tk : TA} {p pos : Pos}
theorem pe_ownXN (d : OwnXN X.prog X.w X.K X.mg X.base x ps n ns dvs k sp) (take : L2N.Takes X W) (hr : Room j X.A) (hj : k ≤ j) (hg : Gl X x) (ha : PA X (e :: es) t) (hkw : PK X kws tk)
    (hall : (backToKw pos (keywordEach kws X.env)).all (·.1.isSome) = true := by rfl)
    (hks : (backToKw pos (keywordEach kws X.env)).filterMap (·.1) = ns := by rfl) (hdb : (x == ("__debug__" : Str)) = false := by decide)
    (he : starEach (e :: es) X.env = (false, eval e X.env) :: starEach es X.env := by rfl)
    (hpl : ((backTo pos (starEach (e :: es) X.env)).any (·.1) || (backToKw pos (keywordEach kws X.env)).any (·.1.isNone)) = false := by rfl) :
    PE X (.Call (.Name x p) (e :: es) kws pos) (tCallXN n ns.length sp (WE W) t tk) := by
  obtain ⟨f, fd, ds, F, hm, hk, hb, _, _⟩ := d
  refine ⟨fun pins s σ H Q I want => wpAny_Call_Name_kw (ld_glob I hg hm (PySem.W.callWith_KW (h₀ := X.base) I.mod.kin hk hall (thn (ha.run pos pins s σ H _ I want) fun us s1 z1 => ?_) hpl he) hdb)⟩
  obtain ⟨vs, H1, I1, r1, go⟩ := z1
  refine thn (hkw.run pos pins s1 σ H1 _ I1 go) fun ws s2 z2 => ?_
  obtain ⟨zs, H2, I2, r2, l1, l2, fin⟩ := z2
  rw [hks]
  refine ⟨I2.kIn, wpAny_call (codeAny_mono (F.run X.A X.stack s2 H2 ⟨us, ns.zip ws⟩ (us ++ ws) (vs ++ zs) Q (WE W σ) (hr.mono hj) I2.env0 (hb.to s2 us ws I2.kIn (r1.length ▸ l1) (r2.length ▸ l2)) (hb.rel r1 r2) fin) fun res s3 z3 => ?_)⟩
  match res, z3 with
  | .error u, z3 => exact L2N.passAt take σ pins H2 s2 u s3 I2 z3
  | .ok (.ret u), z3 => exact I2.after z3
theorem pe_ownXD (d : OwnXN X.prog X.w X.K X.mg X.base x ps n ns dvs k sp) (take : L2N.Takes X W) (hr : Room j X.A) (hj : k ≤ j) (hg : Gl X x) (ha : PA X (e :: es) t)
    (hdb : (x == ("__debug__" : Str)) = false := by decide)
    (he : starEach (e :: es) X.env = (false, eval e X.env) :: starEach es X.env := by rfl) (hpl : (backTo pos (starEach es X.env)).any (·.1) = false := by rfl) :
    PE X (.Call (.Name x p) (e :: es) [] pos) (tCallSD sp dvs (WE W) t) := by
  obtain ⟨f, fd, ds, F, hm, hk, _, hd, hb⟩ := d
  exact pe_callSD F (hr.mono hj) hg hm hk hb hd (fun σ => L2N.passAt take σ) ha hdb he hpl
/-- t[lo:hi], the whole of it t itself, else a tuple without a dict -/
def rSlF (K : PySem.W.Frag) : V → Option Int → Option Int → Hp → VK → Prop := fun x lo hi H Q => ∃ (a : Addr) (xs : List V), x = .ref a ∧ SqT K H a xs ∧
  ((HT.sIx xs.length 0 lo = 0 ∧ HT.sIx xs.length xs.length hi = xs.length) → Q (.ref a) H) ∧ (¬ (HT.sIx xs.length 0 lo = 0 ∧ HT.sIx xs.length xs.length hi = xs.length) → ∀ (p : Addr) (o : Obj), H p = none → o.dict = none → Q (.ref p) (upd H p (.frz o (.tup (cutV xs lo hi)))))
theorem sl_tupF : SlR X (rSlF X.K) := fun pins s σ H x v vl vu lo hi sl Q I rx hs pl pu ⟨a, xs, ex, hx, q1, q2⟩ => by
  by_cases hw : HT.sIx xs.length 0 lo = 0 ∧ HT.sIx xs.length xs.length hi = xs.length
  · exact sl_tupA pins s σ H x v vl vu lo hi sl Q I rx hs pl pu ⟨a, xs, ex, hx, q1, fun no => absurd hw no⟩
  · subst ex
    obtain rfl : v = Value.ref a := rx
    obtain ⟨us, rv, isT, size⟩ := I.tuple hx
    have same : us.toArray.size = xs.length := by
      rw [List.size_toArray]
      exact rv.length.symm
    refine ⟨"tuple", _, PyProof.Rows.slot_tuple_getitem.lookup, isT.typeIs, HT.getItem_tuple_cut isT hs pl pu (same ▸ hw) ?_ (same ▸ size)⟩
    have new := I.hok.fresh (Nat.le_refl s.heap.objs.size)
    rw [same]
    refine ⟨.ref s.heap.objs.size, _, I.laid (a := s.heap.objs.size) (t' := s.toks) (fun b u z => Heap.get?_push_of_some _ z) (Nat.le_refl _) ?_, rfl, q2 hw _ { cls := .type "tuple", data := .seq ((us.drop (HT.sIx xs.length 0 lo)).take (HT.sIx xs.length xs.length hi - HT.sIx xs.length 0 lo)).toArray } new rfl⟩
    exact (show ObjOk X.prog X.w _ _ _ (.frz _ (.tup (cutV xs lo hi))) from ⟨Heap.get?_push_size _ rfl, Nat.le_trans (cutV_length xs lo hi) size, _, (rv.drop (HT.sIx xs.length 0 lo)).take (HT.sIx xs.length xs.length hi - HT.sIx xs.length 0 lo), IsTup.new _ _⟩)
end
end Tc
/-! methods that may let an exception out; a caught exception's fields, its kind among several, in a def that an except suite calls -/
namespace Tc
open PySem PySem.Spec PyProof.Rows L2 L2H
/-- a method by its name, of the instances of C -/
def MethX (P : Program) (w : World) (K : PySem.W.Frag) (mg : Str → Option Value) (base : Heap) (C : Addr) (m : Str) (ps : List Str) (k : Nat) (sp : Sp) : Prop :=
  ∃ (f : Addr) (fd : FuncData), FnOk P w K mg base (L2N.CX P w) k f fd ps sp ∧ Binds K fd ps [] ∧ Meth K C m f
def tMethX (C : Addr) (m : Str) (sp : Sp) (E : L2.St → XK) (ta : TE) (t : TA) : TE := fun σ H Q => ta σ H fun x H1 => ∃ a dx fs, x = .ref a ∧ H1 a = some (.ins C dx fs) ∧ fs.lookup m = none ∧ t σ H1 fun vs H2 => sp (x :: vs) H2 Q (E σ)
section
variable {X : Cx} {C : Addr} {m : Str} {ps : List Str} {k j : Nat} {sp : Sp} {W : WX} {o e : Expr} {es : List Expr} {ta : TE} {t : TA} {pos apos : Pos}
theorem pe_methX {pl : Sem Bool} (d : MethX X.prog X.w X.K X.mg X.base C m ps k sp) (take : L2N.Takes X W) (hr : Room j X.A) (hj : k ≤ j) (c : Cls X.K C) (he : PE X o ta) (ha : PA X (e :: es) t)
    (hst : starEach (e :: es) X.env = (false, eval e X.env) :: starEach es X.env := by rfl)
    (hpl : (backTo pos (starEach es X.env)).any (·.1) = false := by rfl)
    (ht : eval (.Call (.Attribute o m apos) (e :: es) [] pos) X.env = (do
      let v0 ← eval o X.env
      standAt apos.atName
      let (g, g1) ← holding [v0] (getMethod v0 m pl)
      callWith pos g g1 (backTo pos (starEach (e :: es) X.env)) (backToKw pos (keywordEach [] X.env))) := by rfl) :
    PE X (.Call (.Attribute o m apos) (e :: es) [] pos) (tMethX C m sp (WE W) ta t) := by
  obtain ⟨f, fd, F, hb, hm⟩ := d
  refine ⟨fun pins s σ H Q I want => PySem.W.methodCall_KW (pl := pl) (thn (he.run pins s σ H _ I want) fun u s1 z1 => ?_) ht⟩
  obtain ⟨x, H1, I1, rx, a, dx, fs, rfl, ea, nl, go⟩ := z1
  obtain rfl : u = Value.ref a := rx
  refine getmeth_ok I1 ea c hm nl (PySem.W.callWith_K (first := [.ref a]) (h₀ := X.base) I.mod.kin hm.kp (thn (ha.run pos pins s1 σ H1 _ I1 go) fun us s2 z2 => ?_) hst hpl)
  obtain ⟨vs, H2, I2, r, fin⟩ := z2
  have rr : Vals (.ref a :: vs) (.ref a :: us) := .cons rfl r
  have b := hb s2 (.ref a :: us) I2.kIn (by
    rw [List.append_nil, ← rr.length]
    exact F.len _ _ _ _ fin)
  rw [List.append_nil] at b
  refine ⟨I2.kIn, wpAny_call (codeAny_mono (F.run X.A X.stack s2 H2 ⟨.ref a :: us, []⟩ (.ref a :: us) (.ref a :: vs) Q (WE W σ) (hr.mono hj) I2.env0 b rr fin) fun res s3 z3 => ?_)⟩
  match res, z3 with
  | .error u, z3 => exact L2N.passAt take σ pins H2 s2 u s3 I2 z3
  | .ok (.ret u), z3 => exact I2.after z3
end
section
variable {X : Cx} {D : Addr} {d : Option Addr} {p : Addr × Obj}
/-- e.n of the pinned exception -/
def tXp (p : Addr × Obj) (d : Option Addr) (n : Str) (te : TE) : TE := fun σ H Q => te σ H fun x H1 => x = .ref p.1 ∧ ∃ (b : Addr) (fs : List (Str × V)) (v : V), d = some b ∧ H1 b = some (.xd fs) ∧ fs.lookup n = some v ∧ Q v H1
theorem pe_xp {e : Expr} {te : TE} {pos : Pos} {n : Str} (T : XfC X.K D) (hno : PySem.W.findIn X.K (.ref D) n = some none) (hp : p ∈ X.pn) (hx : IsEx D d p) (he : PE X e te)
    (hb : attributeBase e n X.env (eval e X.env) = eval e X.env := by rfl) : PE X (.Attribute e n pos) (tXp p d n te) := by
  refine ⟨fun pins s σ H Q I want => attr_of hb (thn (he.run pins s σ H _ I want) fun u s1 z => ?_)⟩
  obtain ⟨x, H1, I1, rx, rfl, b, fs, v, eb, hb1, hl, go⟩ := z
  obtain rfl : u = Value.ref p.1 := rx
  have here := (I1.pin p (List.mem_append_left _ hp)).1
  obtain ⟨ws, hw⟩ := hx.fs
  obtain ⟨mA, hns, rel⟩ := (show ObjOk X.prog X.w H1 s1.heap b (.xd fs) from I1.hok b _ hb1)
  obtain ⟨ob, hob, look⟩ := lookIn_ns hns
  obtain ⟨uv, hu, ru⟩ := RelO.some_of (v := v) (o := mA n) (hl ▸ rel n)
  have nc : PySem.W.notCls p.2 = true := by
    unfold PySem.W.notCls
    rw [hw]
  have J : PySem.W.InstAt s1.heap p.1 p.2 D (some ob) := ⟨here, hx.cl, nc, by
    rw [hx.di, eb]
    exact hob⟩
  exact HandSPX.exc_get I1.kIn J T.ga T.gg T.exC (PySem.W.findObj_own T.hdC hno rfl (by rw [look, hu])) (handed_of ru) ⟨v, H1, I1.tok _, ru, go⟩
/-- isinstance(e, (A, ..)) of the pinned one -/
def rIsT (K : PySem.W.Frag) (D : Addr) (d : Option Addr) (p : Addr × Obj) : List V → Hp → VK → Prop := fun xs H Q => ∃ (t : Addr) (cs : List Addr) (b : Bool), xs = [.ref p.1, .ref t] ∧ SqT K H t (cs.map V.ref) ∧ (∀ a, d = some a → ∃ fs, H a = some (.xd fs)) ∧ PySem.W.kitAny K (.ref D) (cs.map Value.ref) = some b ∧ Q (.bl b) H
theorem call_isT (C : ExK X.K D) (hp : p ∈ X.pn) (hx : IsEx D d p) : CallR X (.builtin "isinstance") (rIsT X.K D d p) := by
  intro pins s σ H xs us Q I r h
  obtain ⟨t, cs, b, rfl, ht, hd, e, q⟩ := h
  match us, r with
  | [_, u], .cons r1 (.cons r2 .nil) =>
    cases r1
    obtain rfl : u = Value.ref t := r2
    obtain ⟨its, rv, ⟨⟨c0, dd, dat, sl⟩, ho, hc, n, hdat⟩, _⟩ := I.tuple ht
    have ei := refs_at rv
    subst ei
    dsimp only at hc hdat
    subst hc
    subst hdat
    have y := (I.pin p (List.mem_append_left _ hp)).1
    obtain ⟨vs, hv⟩ := hx.fs
    have nc : PySem.W.notCls p.2 = true := by
      unfold PySem.W.notCls
      rw [hv]
    have J : ∃ od, PySem.W.InstAt s.heap p.1 p.2 D od := by
      cases d with
      | none => exact ⟨none, y, hx.cl, nc, by
          rw [hx.di]
          trivial⟩
      | some a =>
        obtain ⟨fs, hd⟩ := hd a rfl
        obtain ⟨mA, hns, _⟩ := (show ObjOk X.prog X.w H s.heap a (.xd fs) from I.hok a _ hd)
        obtain ⟨od, ho, _⟩ := lookIn_ns hns
        exact ⟨some od, y, hx.cl, nc, by
          rw [hx.di]
          exact ho⟩
    obtain ⟨od, J⟩ := J
    exact PySem.W.kia_tup (PySem.W.kitx_exc C.cl C.ga C.gt C.sb C.ca C.cg C.tc C.mo) I.kIn J ho e (fun z => nomatch z) fun tk => ⟨.bl b, H, I.kept (t' := tk) fun _ _ z => z, rfl, q⟩
end
end Tc
/-! an exception of the text without an __init__ of its own; an own class whose __init__ may let an exception out -/
namespace Tc
open PySem PySem.Spec PyProof.Rows L2 L2H
/-- an exception under its name, made of a text -/
def OwnE0 (K : PySem.W.Frag) (mg : Str → Option Value) (x : Str) (C : Addr) (bm : List Value) : Prop :=
  PySem.W.excIn K C bm "ValueError.__new__" = true ∧ mg x = some (.ref C) ∧ PySem.W.keepIn K (.ref C) = true ∧ PySem.W.subIn K (.ref C) (.type "BaseException") = some true ∧ PySem.W.typeIn K (.ref C) = some (.type "type")
section
variable {X : Cx} {W : WX} {x m : Str} {C : Addr} {bm : List Value} {j : Nat} {p p2 pos pos' : Pos}
theorem ps_raise0 (F : ExcBaseFacts "ValueError" "ValueError.__new__" "ValueError.__init__" bm) (d : OwnE0 X.K X.mg x C bm) (hc : X.calm = true) (tk : L2N.Takes X W) (hg : Gl X x) (hdb : (x == ("__debug__" : Str)) = false := by decide) :
    PS X (.Raise (some (.Call (.Name x p) [.Constant (.str m) j p2] [] pos)) none pos') (fun _ σ H => W (.ref C) none σ H) :=
  L2N.ps_raise hc tk (L2N.pmk_own F d.1 d.2.1 d.2.2.1 (raises_own d.2.2.2.1 d.2.2.2.2) hg hdb)
end
/-- C(..), its __init__ may raise -/
def tMakeX (C : Addr) (sp : Sp) (dvs : List V) (E : L2.St → XK) (t : TA) : TE := fun σ H Q => t σ H fun vs H1 => ∀ x dx, H1 x = none → H1 dx = none → dx ≠ x →
  sp (.ref x :: (vs ++ dvs)) (upd (upd H1 dx (.own x)) x (.ins C dx [])) (fun v H2 => v = .non ∧ Q (.ref x) H2) (E σ)
section
variable {X : Cx} {W : WX} {C f : Addr} {fd : FuncData} {ps : List Str} {k j : Nat} {sp : Sp} {dvs : List V} {ds : List Value} {x : Str} {e : Expr} {es : List Expr} {t : TA} {p pos : Pos}
theorem pe_makeX (M : Mk X.K C f) (F : FnOk X.prog X.w X.K X.mg X.base (L2N.CX X.prog X.w) k f fd ps sp) (take : L2N.Takes X W) (hr : Room j X.A) (hj : k + 1 ≤ j) (hg : Gl X x) (hm : X.mg x = some (.ref C)) (hb : Binds X.K fd ps ds) (hd : Vals dvs ds) (ha : PA X (e :: es) t)
    (hdb : (x == ("__debug__" : Str)) = false := by decide)
    (he : starEach (e :: es) X.env = (false, eval e X.env) :: starEach es X.env := by rfl) (hpl : (backTo pos (starEach es X.env)).any (·.1) = false := by rfl) :
    PE X (.Call (.Name x p) (e :: es) [] pos) (tMakeX C sp dvs (WE W) t) := by
  refine ⟨fun pins s σ H Q I want => wpAny_Call_Name_kw (ld_glob I hg hm (PySem.W.callWith_K (h₀ := X.base) I.mod.kin M.kp (thn (ha.run pos pins s σ H _ I want) fun us s1 z1 => ?_) he hpl) hdb)⟩
  obtain ⟨vs, H1, I1, r, go⟩ := z1
  have fin := go (s1.heap.objs.size + 1) s1.heap.objs.size (I1.hok.fresh (Nat.le_succ _)) (I1.hok.fresh (Nat.le_refl _)) (Nat.ne_of_lt (Nat.lt_succ_self _))
  have I2 := Inv.made (C := C) I1
  have rr : Vals (V.ref (s1.heap.objs.size + 1) :: (vs ++ dvs)) (Value.ref (s1.heap.objs.size + 1) :: (us ++ ds)) := .cons rfl (r.append hd)
  have len : (Value.ref (s1.heap.objs.size + 1) :: us ++ ds).length = ps.length := (F.len _ _ _ _ fin) ▸ rr.length.symm
  refine ⟨I1.kIn, wpAny_call (make_map (f := f) I1.kIn M.makes M.init (beq_iff_eq.mp M.fn) (codeAny_mono (F.run _ X.stack _ _ ⟨.ref (s1.heap.objs.size + 1) :: us, []⟩ (.ref (s1.heap.objs.size + 1) :: (us ++ ds)) _ _ (WE W σ) ((hr.mono hj).make C us []) (I2.env0.make C us []) (hb _ (.ref (s1.heap.objs.size + 1) :: us) I2.kIn len) rr fin) fun res s3 z3 => ?_))⟩
  match res, z3 with
  | .error u, z3 => exact L2N.passAt take σ pins _ _ u s3 I2 z3
  | .ok (.ret u), z3 =>
    obtain ⟨v, H', I3, rv, ev, q3⟩ := I2.after z3
    subst ev
    exact ⟨rv, ⟨V.ref (s1.heap.objs.size + 1), H', I3, rfl, q3⟩⟩
end
end Tc
/-! methods that may let an exception out: without a thing handed in, with names behind a star; a class made of nothing -/
namespace Tc
open PySem PySem.Spec PyProof.Rows L2 L2H
section
variable {X : Cx} {C : Addr} {m : Str} {ps ns : List Str} {n k j : Nat} {sp : Sp} {W : WX} {o e : Expr} {es : List Expr} {kws : List Keyword} {ta : TE} {t tk : TA} {pos apos : Pos}
/-- o.m() -/
theorem pe_methX0 {pl : Sem Bool} (d : MethX X.prog X.w X.K X.mg X.base C m ps k sp) (take : L2N.Takes X W) (hr : Room j X.A) (hj : k ≤ j) (c : Cls X.K C) (he : PE X o ta)
    (ht : eval (.Call (.Attribute o m apos) [] [] pos) X.env = (do
      let v0 ← eval o X.env
      standAt apos.atName
      let (g, g1) ← holding [v0] (getMethod v0 m pl)
      callWith pos g g1 (backTo pos (starEach [] X.env)) (backToKw pos (keywordEach [] X.env))) := by rfl) :
    PE X (.Call (.Attribute o m apos) [] [] pos) (tMethX C m sp (WE W) ta tNil) := by
  obtain ⟨f, fd, F, hb, hm⟩ := d
  refine ⟨fun pins s σ H Q I want => PySem.W.methodCall_KW (pl := pl) (thn (he.run pins s σ H _ I want) fun u s1 z1 => ?_) ht⟩
  obtain ⟨x, H1, I1, rx, a, dx, fs, rfl, ea, nl, fin⟩ := z1
  obtain rfl : u = Value.ref a := rx
  have fin : sp [.ref a] H1 Q (WE W σ) := fin
  have rr : Vals [V.ref a] [Value.ref a] := .cons rfl .nil
  have b := hb s1 [.ref a] I1.kIn (by
    rw [List.append_nil, ← rr.length]
    exact F.len _ _ _ _ fin)
  rw [List.append_nil] at b
  refine getmeth_ok I1 ea c hm nl (PySem.W.callWith_K0 (first := [.ref a]) I1.kIn hm.kp (wpAny_call (codeAny_mono (F.run X.A X.stack s1 H1 ⟨[.ref a], []⟩ [.ref a] [.ref a] Q (WE W σ) (hr.mono hj) I1.env0 b rr fin) fun res s3 z3 => ?_)))
  match res, z3 with
  | .error u, z3 => exact L2N.passAt take σ pins H1 s1 u s3 I1 z3
  | .ok (.ret u), z3 => exact I1.after z3
/-- a method with names behind a star, all of them said -/
def MethXN (P : Program) (w : World) (K : PySem.W.Frag) (mg : Str → Option Value) (base : Heap) (C : Addr) (m : Str) (ps : List Str) (n : Nat) (ns : List Str) (k : Nat) (sp : Sp) : Prop :=
  ∃ (f : Addr) (fd : FuncData), FnOk P w K mg base (L2N.CX P w) k f fd ps sp ∧ KBn K fd ps (n + 1) ns (· ++ ·) (· ++ ·) ∧ Meth K C m f
def tMethXN (C : Addr) (m : Str) (n l : Nat) (sp : Sp) (E : L2.St → XK) (ta : TE) (t tk : TA) : TE := fun σ H Q => ta σ H fun x H1 => ∃ a dx fs, x = .ref a ∧ H1 a = some (.ins C dx fs) ∧ fs.lookup m = none ∧ t σ H1 fun vs H2 => tk σ H2 fun zs H3 => vs.length = n ∧ zs.length = l ∧ sp (x :: (vs ++ zs)) H3 Q (E σ)
theorem pe_methXN {pl : Sem Bool} (d : MethXN X.prog X.w X.K X.mg X.base C m ps n ns k sp) (take : L2N.Takes X W) (hr : Room j X.A) (hj : k ≤ j) (c : Cls X.K C) (he : PE X o ta) (ha : PA X (e :: es) t) (hkw : PK X kws tk)
    (hall : (backToKw pos (keywordEach kws X.env)).all (·.1.isSome) = true := by rfl)
    (hks : (backToKw pos (keywordEach kws X.env)).filterMap (·.1) = ns := by rfl)
    (hst : starEach (e :: es) X.env = (false, eval e X.env) :: starEach es X.env := by rfl)
    (hpl : ((backTo pos (starEach (e :: es) X.env)).any (·.1) || (backToKw pos (keywordEach kws X.env)).any (·.1.isNone)) = false := by rfl)
    (ht : eval (.Call (.Attribute o m apos) (e :: es) kws pos) X.env = (do
      let v0 ← eval o X.env
      standAt apos.atName
      let (g, g1) ← holding [v0] (getMethod v0 m pl)
      callWith pos g g1 (backTo pos (starEach (e :: es) X.env)) (backToKw pos (keywordEach kws X.env))) := by rfl) :
    PE X (.Call (.Attribute o m apos) (e :: es) kws pos) (tMethXN C m n ns.length sp (WE W) ta t tk) := by
  obtain ⟨f, fd, F, hb, hm⟩ := d
  refine ⟨fun pins s σ H Q I want => PySem.W.methodCall_KW (pl := pl) (thn (he.run pins s σ H _ I want) fun u s1 z1 => ?_) ht⟩
  obtain ⟨x, H1, I1, rx, a, dx, fs, rfl, ea, nl, go⟩ := z1
  obtain rfl : u = Value.ref a := rx
  refine getmeth_ok I1 ea c hm nl (PySem.W.callWith_KW (first := [.ref a]) (h₀ := X.base) I.mod.kin hm.kp hall (thn (ha.run pos pins s1 σ H1 _ I1 go) fun us s2 z2 => ?_) hpl hst)
  obtain ⟨vs, H2, I2, r1, go2⟩ := z2
  refine thn (hkw.run pos pins s2 σ H2 _ I2 go2) fun ws s3 z3 => ?_
  obtain ⟨zs, H3, I3, r2, l1, l2, fin⟩ := z3
  rw [hks]
  have rr : Vals (V.ref a :: vs) (Value.ref a :: us) := .cons rfl r1
  refine ⟨I3.kIn, wpAny_call (codeAny_mono (F.run X.A X.stack s3 H3 ⟨.ref a :: us, ns.zip ws⟩ (.ref a :: us ++ ws) (.ref a :: vs ++ zs) Q (WE W σ) (hr.mono hj) I3.env0 (hb.to s3 (.ref a :: us) ws I3.kIn (rr.length ▸ (congrArg (· + 1) l1)) (r2.length ▸ l2)) (hb.rel rr r2) fin) fun res s4 z4 => ?_)⟩
  match res, z4 with
  | .error u, z4 => exact L2N.passAt take σ pins H3 s3 u s4 I3 z4
  | .ok (.ret u), z4 => exact I3.after z4
end
section
variable {X : Cx} {W : WX} {C f : Addr} {fd : FuncData} {ps : List Str} {k j : Nat} {sp : Sp} {dvs : List V} {ds : List Value} {x : Str} {p pos : Pos}
theorem pe_makeX0 (M : Mk X.K C f) (F : FnOk X.prog X.w X.K X.mg X.base (L2N.CX X.prog X.w) k f fd ps sp) (take : L2N.Takes X W) (hr : Room j X.A) (hj : k + 1 ≤ j) (hg : Gl X x) (hm : X.mg x = some (.ref C)) (hb : Binds X.K fd ps ds) (hd : Vals dvs ds)
    (hdb : (x == ("__debug__" : Str)) = false := by decide) :
    PE X (.Call (.Name x p) [] [] pos) (tMakeX C sp dvs (WE W) tNil) := by
  refine ⟨fun pins s σ H Q I want => wpAny_Call_Name_kw (ld_glob I hg hm (PySem.W.callWith_K0 I.kIn M.kp ?_) hdb)⟩
  have fin := want (s.heap.objs.size + 1) s.heap.objs.size (I.hok.fresh (Nat.le_succ _)) (I.hok.fresh (Nat.le_refl _)) (Nat.ne_of_lt (Nat.lt_succ_self _))
  have I2 := Inv.made (C := C) I
  have rr : Vals (V.ref (s.heap.objs.size + 1) :: ([] ++ dvs)) ([Value.ref (s.heap.objs.size + 1)] ++ ds) := .cons rfl hd
  have len : (Value.ref (s.heap.objs.size + 1) :: [] ++ ds).length = ps.length := (F.len _ _ _ _ fin) ▸ rr.length.symm
  refine wpAny_call (make_map (f := f) I.kIn M.makes M.init (beq_iff_eq.mp M.fn) (codeAny_mono (F.run _ X.stack _ _ ⟨[.ref (s.heap.objs.size + 1)], []⟩ ([Value.ref (s.heap.objs.size + 1)] ++ ds) _ _ (WE W σ) ((hr.mono hj).make C [] []) (I2.env0.make C [] []) (hb _ [.ref (s.heap.objs.size + 1)] I2.kIn len) rr fin) fun res s3 z3 => ?_))
  match res, z3 with
  | .error u, z3 => exact L2N.passAt take σ pins _ _ u s3 I2 z3
  | .ok (.ret u), z3 =>
    obtain ⟨v, H', I3, rv, ev, q3⟩ := I2.after z3
    subst ev
    exact ⟨rv, ⟨V.ref (s.heap.objs.size + 1), H', I3, rfl, q3⟩⟩
end
end Tc
/-! an object while its fields are laid -/
namespace Tc
open PySem L2 Evl
/-- the object at p on its way: what stood at H0 stays, what came is told in nw -/
structure Ini (C dx p : Addr) (H0 : Hp) (fs : List (Str × V)) (nw : List (Addr × HO)) (H : Hp) : Prop where
  ob : H p = some (.ins C dx fs)
  bb : ∀ a o, a ≠ p → H0 a = some o → H a = some o
  fr : ∀ a, H a = none → H0 a = none
  nws : ∀ q ∈ nw, H q.1 = some q.2 ∧ H0 q.1 = none ∧ q.1 ≠ p
  nd : (nw.map (·.1)).Nodup
section
variable {C dx p : Addr} {H0 H H' : Hp} {fs : List (Str × V)} {nw : List (Addr × HO)}
theorem Ini.start (h : H0 p = some (.ins C dx fs)) : Ini C dx p H0 fs [] H0 := ⟨h, fun _ _ _ z => z, fun _ z => z, fun q m => (by cases m), List.nodup_nil⟩
theorem Ini.ex (I : Ini C dx p H0 fs nw H) (x : Ex H H') : Ini C dx p H0 fs nw H' := ⟨x _ _ I.ob, fun a o n h => x _ _ (I.bb a o n h), fun a h => I.fr a (fresh_back x h), fun q m => ⟨x _ _ (I.nws q m).1, (I.nws q m).2⟩, I.nd⟩
theorem Ini.fld (I : Ini C dx p H0 fs nw H) (gs : List (Str × V)) : Ini C dx p H0 gs nw (upd H p (.ins C dx gs)) := by
  refine ⟨upd_same, fun a o n h => ?_, fun a h => ?_, fun q m => ?_, I.nd⟩
  · rw [upd_ne n]
    exact I.bb a o n h
  · have n : a ≠ p := fun z => by
      rw [z, upd_same] at h
      cases h
    rw [upd_ne n] at h
    exact I.fr a h
  · obtain ⟨h1, h2, h3⟩ := I.nws q m
    exact ⟨by rw [upd_ne h3]; exact h1, h2, h3⟩
theorem Ini.new {d : Addr} {o : HO} (I : Ini C dx p H0 fs nw H) (hd : H d = none) (x : Ex H H') (h : H' d = some o) : Ini C dx p H0 fs ((d, o) :: nw) H' := by
  have J := I.ex x
  refine ⟨J.ob, J.bb, J.fr, fun q m => ?_, ?_⟩
  · rcases List.mem_cons.mp m with rfl | m
    · refine ⟨h, I.fr d hd, fun z => ?_⟩
      have := I.ob
      rw [← z, hd] at this
      cases this
    · exact J.nws q m
  · rw [List.map_cons]
    refine List.nodup_cons.mpr ⟨fun m => ?_, I.nd⟩
    obtain ⟨q, mq, e⟩ := List.mem_map.mp m
    have := (I.nws q mq).1
    rw [e, hd] at this
    cases this
variable {K : PySem.W.Frag} {D : Ends} {σ : L2.St} {te : TE} {v : V} {f : Str} {i : Nat}
/-- self.f = a value -/
theorem ini_c (I : Ini C dx p H0 fs nw H) (hv : Ev te σ H v) (hi : σ[i]? = some (some (.ref p))) (c : Cls K C) (na : NoAttr K C f) (hl : fs.length < 1000) (k : ∀ H', Ini C dx p H0 (putF f v fs) nw H' → D.nx σ H') : sFld K (tVar i) te f D σ H :=
  hv H (Ex.refl H) _ fun H1 x1 => ⟨.ref p, hi, p, C, dx, fs, rfl, x1 _ _ I.ob, c, na, hl, k _ ((I.ex x1).fld _)⟩
/-- self.f = a new thing -/
theorem ini_g {o : HO} (I : Ini C dx p H0 fs nw H) (hv : ∀ Q : VK, (∀ d H1, H d = none → Ex H H1 → H1 d = some o → Q (.ref d) H1) → te σ H Q) (hi : σ[i]? = some (some (.ref p))) (c : Cls K C) (na : NoAttr K C f) (hl : fs.length < 1000) (k : ∀ d H', Ini C dx p H0 (putF f (.ref d) fs) ((d, o) :: nw) H' → D.nx σ H') : sFld K (tVar i) te f D σ H :=
  hv _ fun d H1 hd x1 h1 => ⟨.ref p, hi, p, C, dx, fs, rfl, x1 _ _ I.ob, c, na, hl, k d _ ((I.new hd x1 h1).fld _)⟩
theorem new_d {Q : VK} {σ : L2.St} {H : Hp} (q : ∀ d H1, H d = none → Ex H H1 → H1 d = some (.dK []) → Q (.ref d) H1) : tDNewK σ H Q := fun d hd => q d _ hd (Ex.new hd) upd_same
theorem new_l {Q : VK} {σ : L2.St} {H : Hp} (q : ∀ d H1, H d = none → Ex H H1 → H1 d = some (.lst []) → Q (.ref d) H1) : tLst tNil σ H Q := ⟨Nat.zero_le _, fun d hd => q d _ hd (Ex.new hd) upd_same⟩
end
theorem putF_le {f : Str} {v : V} : ∀ {fs : List (Str × V)} {n : Nat}, fs.length ≤ n → (putF f v fs).length ≤ n + 1
  | [], n, _ => by show 1 ≤ n + 1; omega
  | (g, x) :: r, n, h => by
    show (if g = f then _ else _ : List (Str × V)).length ≤ n + 1
    split
    · rw [List.length_cons] at h ⊢
      omega
    · rw [List.length_cons] at h ⊢
      cases n with
      | zero => omega
      | succ n =>
        have := putF_le (f := f) (v := v) (fs := r) (n := n) (by omega)
        omega
end Tc
/-! a house: its fields and what they hold -/
namespace Tc
open PySem L2 Evl
def hfl (dW dK : Addr) (fk lg bg : Int) (dL dR : Addr) : List (Str × V) := [("worths", .ref dW), ("kept", .ref dK), ("first_kept", .int fk), ("lives_given", .int lg), ("begun", .int bg), ("living", .ref dL), ("running", .ref dR)]
section
variable (dW dK : Addr) (fk lg bg : Int) (dL dR : Addr)
theorem hl_worths : (hfl dW dK fk lg bg dL dR).lookup ("worths" : Str) = some (.ref dW) := by simp only [hfl, List.lookup]; rfl
theorem hl_kept : (hfl dW dK fk lg bg dL dR).lookup ("kept" : Str) = some (.ref dK) := by simp only [hfl, List.lookup]; rfl
theorem hl_first_kept : (hfl dW dK fk lg bg dL dR).lookup ("first_kept" : Str) = some (.int fk) := by simp only [hfl, List.lookup]; rfl
theorem hl_lives_given : (hfl dW dK fk lg bg dL dR).lookup ("lives_given" : Str) = some (.int lg) := by simp only [hfl, List.lookup]; rfl
theorem hl_begun : (hfl dW dK fk lg bg dL dR).lookup ("begun" : Str) = some (.int bg) := by simp only [hfl, List.lookup]; rfl
theorem hl_living : (hfl dW dK fk lg bg dL dR).lookup ("living" : Str) = some (.ref dL) := by simp only [hfl, List.lookup]; rfl
theorem hl_running : (hfl dW dK fk lg bg dL dR).lookup ("running" : Str) = some (.ref dR) := by simp only [hfl, List.lookup]; rfl
theorem hp_worths (z : Addr) : putF "worths" (.ref z) (hfl dW dK fk lg bg dL dR) = hfl z dK fk lg bg dL dR := by simp only [hfl, putF]; rfl
theorem hp_kept (z : Addr) : putF "kept" (.ref z) (hfl dW dK fk lg bg dL dR) = hfl dW z fk lg bg dL dR := by simp only [hfl, putF]; rfl
theorem hp_first_kept (z : Int) : putF "first_kept" (.int z) (hfl dW dK fk lg bg dL dR) = hfl dW dK z lg bg dL dR := by simp only [hfl, putF]; rfl
theorem hp_lives_given (z : Int) : putF "lives_given" (.int z) (hfl dW dK fk lg bg dL dR) = hfl dW dK fk z bg dL dR := by simp only [hfl, putF]; rfl
theorem hp_begun (z : Int) : putF "begun" (.int z) (hfl dW dK fk lg bg dL dR) = hfl dW dK fk lg z dL dR := by simp only [hfl, putF]; rfl
theorem hp_living (z : Addr) : putF "living" (.ref z) (hfl dW dK fk lg bg dL dR) = hfl dW dK fk lg bg z dR := by simp only [hfl, putF]; rfl
theorem hp_running (z : Addr) : putF "running" (.ref z) (hfl dW dK fk lg bg dL dR) = hfl dW dK fk lg bg dL z := by simp only [hfl, putF]; rfl
theorem hfl_made : putF "running" (.ref dR) (putF "living" (.ref dL) (putF "begun" (.int bg) (putF "lives_given" (.int lg) (putF "first_kept" (.int fk) (putF "kept" (.ref dK) (putF "worths" (.ref dW) [])))))) = hfl dW dK fk lg bg dL dR := by
  simp only [hfl, putF]
  rfl
theorem hfl_no {m : Str} (h : (m == ("worths" : Str)) = false ∧ (m == ("kept" : Str)) = false ∧ (m == ("first_kept" : Str)) = false ∧ (m == ("lives_given" : Str)) = false ∧ (m == ("begun" : Str)) = false ∧ (m == ("living" : Str)) = false ∧ (m == ("running" : Str)) = false) : (hfl dW dK fk lg bg dL dR).lookup m = none := by
  obtain ⟨h1, h2, h3, h4, h5, h6, h7⟩ := h
  simp only [hfl, List.lookup, h1, h2, h3, h4, h5, h6, h7]
end
/-- a house at p -/
structure HsAt (C : Addr) (H : Hp) (p dW dK dL dR : Addr) (kvs : List (Key × V)) (kept : List V) (fk lg bg : Int) (liv run : List (Key × V)) : Prop where
  ob : ∃ dx, H p = some (.ins C dx (hfl dW dK fk lg bg dL dR))
  wo : H dW = some (.dK kvs)
  ke : H dK = some (.lst kept)
  li : H dL = some (.dK liv)
  ru : H dR = some (.dK run)
  n1 : dW ≠ dL
  n2 : dW ≠ dR
  n3 : dL ≠ dR
section
variable {C : Addr} {H H' : Hp} {p dW dK dL dR : Addr} {kvs : List (Key × V)} {kept : List V} {fk lg bg : Int} {liv run : List (Key × V)}
theorem HsAt.ex (S : HsAt C H p dW dK dL dR kvs kept fk lg bg liv run) (x : Ex H H') : HsAt C H' p dW dK dL dR kvs kept fk lg bg liv run :=
  ⟨let ⟨dx, h⟩ := S.ob; ⟨dx, x _ _ h⟩, x _ _ S.wo, x _ _ S.ke, x _ _ S.li, x _ _ S.ru, S.n1, S.n2, S.n3⟩
theorem HsAt.pne (S : HsAt C H p dW dK dL dR kvs kept fk lg bg liv run) : dW ≠ p ∧ dK ≠ p ∧ dL ≠ p ∧ dR ≠ p := by
  obtain ⟨dx, hp⟩ := S.ob
  refine ⟨fun z => ?_, fun z => ?_, fun z => ?_, fun z => ?_⟩
  · have := S.wo
    rw [z, hp] at this
    cases this
  · have := S.ke
    rw [z, hp] at this
    cases this
  · have := S.li
    rw [z, hp] at this
    cases this
  · have := S.ru
    rw [z, hp] at this
    cases this
theorem HsAt.kne (S : HsAt C H p dW dK dL dR kvs kept fk lg bg liv run) : dW ≠ dK ∧ dL ≠ dK ∧ dR ≠ dK := by
  refine ⟨fun z => ?_, fun z => ?_, fun z => ?_⟩
  · have := S.wo
    rw [z, S.ke] at this
    cases this
  · have := S.li
    rw [z, S.ke] at this
    cases this
  · have := S.ru
    rw [z, S.ke] at this
    cases this
end
/-- what is known of the class -/
structure HTx (K : PySem.W.Frag) (mg : Str → Option Value) (C : Addr) : Prop where
  cl : Cls K C
  aW : NoAttr K C "worths"
  aK : NoAttr K C "kept"
  aF : NoAttr K C "first_kept"
  aG : NoAttr K C "lives_given"
  aB : NoAttr K C "begun"
  aL : NoAttr K C "living"
  aR : NoAttr K C "running"
  mgC : mg "House" = some (.ref C)
end Tc
/-! tuples stay -/
namespace Tc
open PySem L2 Evl
def Kt (H H' : Hp) : Prop := ∀ a u, (∃ xs, u = .tup xs ∨ ∃ o, u = .frz o (.tup xs)) → H a = some u → H' a = some u
theorem Kt.ex {H H' : Hp} (x : Ex H H') : Kt H H' := fun a u _ h => x a u h
theorem Kt.trans {H H1 H2 : Hp} (x : Kt H H1) (y : Kt H1 H2) : Kt H H2 := fun a u k h => y a u k (x a u k h)
section
variable {K : PySem.W.Frag} {H H' : Hp}
theorem Kt.t {a : Addr} {xs : List V} (e : Kt H H') (h : SqT K H a xs) : SqT K H' a xs := by
  rcases h with (h | ⟨o, h⟩) | h
  · exact .inl (.inl (e a _ ⟨xs, .inl rfl⟩ h))
  · exact .inl (.inr ⟨o, e a _ ⟨xs, .inr ⟨o, rfl⟩⟩ h⟩)
  · exact .inr h
theorem Kt.dp (e : Kt H H') : ∀ (n : Nat) (d : PyData) (v : V), nl n d = true → Dp K H v d → Dp K H' v d
  | 0, d, v, g, h => by
    cases h with
    | non => exact .non
    | bl b => exact .bl b
    | int i => exact .int i
    | str x => exact .str x
    | lst => cases g
    | tup => cases g
  | n + 1, d, v, g, h => by
    cases h with
    | non => exact .non
    | bl b => exact .bl b
    | int i => exact .int i
    | str x => exact .str x
    | lst => cases g
    | tup hs r => exact .tup (e.t hs) (dps_each (fun d m v => Kt.dp e n d v (List.all_eq_true.mp g d m)) r)
theorem Kt.dps (e : Kt H H') {n : Nat} {ds : List PyData} {vs : List V} (g : ∀ d ∈ ds, nl n d = true) (h : DpAll K H vs ds) : DpAll K H' vs ds := dps_each (fun d m v => e.dp n d v (g d m)) h
theorem Kt.tp (e : Kt H H') {p : Addr} {rs : List (Int × Int)} (h : TP K H p rs) : TP K H' p rs := by
  obtain ⟨xs, ⟨o, h1, h2⟩, h3⟩ := h
  refine ⟨xs, ⟨o, e _ _ ⟨xs, .inr ⟨o, rfl⟩⟩ h1, h2⟩, e.dps (n := 1) (fun d m => ?_) h3⟩
  obtain ⟨r, _, rfl⟩ := List.mem_map.mp m
  rfl
end
theorem Kt.fr {b : Addr} {H H' : Hp} (hB : Bag H b) (f : Fr b H H') : Kt H H' := fun a u k h => f.at h fun z => by
  obtain ⟨x, y, hb, _⟩ := hB
  rw [z, hb] at h
  obtain ⟨xs, rfl | ⟨o, rfl⟩⟩ := k <;> cases h
theorem Kt.barL {e : Addr} {H H' : Hp} {bs : List V} (hb : H e = some (.lst bs)) (x : Bar e H H') : Kt H H' := fun a u k h => x a u (fun z => by
  subst z
  rw [hb] at h
  obtain ⟨xs, rfl | ⟨o, rfl⟩⟩ := k <;> cases h) h
theorem Kt.barD {e : Addr} {H H' : Hp} {kvs : List (Key × V)} (hb : H e = some (.dK kvs)) (x : Bar e H H') : Kt H H' := fun a u k h => x a u (fun z => by
  subst z
  rw [hb] at h
  obtain ⟨xs, rfl | ⟨o, rfl⟩⟩ := k <;> cases h) h
/-- all but what is no tuple -/
theorem Kt.but {H H' : Hp} (P : Addr → Prop) (h : ∀ a, P a → ∃ o, H a = some o ∧ (∀ xs, o ≠ .tup xs) ∧ ∀ o' xs, o ≠ .frz o' (.tup xs)) (e : ∀ a o, ¬ P a → H a = some o → H' a = some o) : Kt H H' := fun a u k ha => by
  refine e a u (fun z => ?_) ha
  obtain ⟨o, ho, n1, n2⟩ := h a z
  rw [ha] at ho
  obtain ⟨xs, rfl | ⟨o', rfl⟩⟩ := k
  · exact n1 xs (Option.some.inj ho).symm
  · exact n2 o' xs (Option.some.inj ho).symm
section
variable {C : Addr} {H H' : Hp} {p dW dK dL dR : Addr} {kvs : List (Key × V)} {kept : List V} {fk lg bg : Int} {liv run : List (Key × V)}
theorem HsAt.kt (S : HsAt C H p dW dK dL dR kvs kept fk lg bg liv run) (e : ∀ a o, a ≠ p → a ≠ dW → a ≠ dK → a ≠ dL → a ≠ dR → H a = some o → H' a = some o) : Kt H H' := by
  refine Kt.but (fun a => a = p ∨ a = dW ∨ a = dK ∨ a = dL ∨ a = dR) (fun a z => ?_) fun a o z h => e a o (fun y => z (.inl y)) (fun y => z (.inr (.inl y))) (fun y => z (.inr (.inr (.inl y)))) (fun y => z (.inr (.inr (.inr (.inl y))))) (fun y => z (.inr (.inr (.inr (.inr y))))) h
  obtain ⟨dx, hp⟩ := S.ob
  rcases z with rfl | rfl | rfl | rfl | rfl
  · exact ⟨_, hp, (fun xs z => by cases z), fun o xs z => by cases z⟩
  · exact ⟨_, S.wo, (fun xs z => by cases z), fun o xs z => by cases z⟩
  · exact ⟨_, S.ke, (fun xs z => by cases z), fun o xs z => by cases z⟩
  · exact ⟨_, S.li, (fun xs z => by cases z), fun o xs z => by cases z⟩
  · exact ⟨_, S.ru, (fun xs z => by cases z), fun o xs z => by cases z⟩
end
theorem ev_fl {K : PySem.W.Frag} {σ : L2.St} {H : Hp} {C p dx : Addr} {fs : List (Str × V)} {f : Str} {v : V} {i : Nat} (hp : H p = some (.ins C dx fs)) (hl : fs.lookup f = some v) (c : Cls K C) (na : NoAttr K C f) (hi : σ[i]? = some (some (.ref p))) : Ev (tFld K (tVar i) f) σ H v := fun H1 e Q q => ⟨.ref p, hi, p, C, dx, fs, v, rfl, e _ _ hp, c, na, hl, q H1 (Ex.refl H1)⟩
/-- two dicts of one table are as long -/
theorem DI.same_len {ks ks' : List Int} {a b : List (Key × V)} {f : Int → Option Int} (h : DI ks a f) (h' : DI ks' b f) : a.length = b.length := by
  obtain ⟨js, e, nd, mem, _⟩ := h.keys
  obtain ⟨js', e', nd', mem', _⟩ := h'.keys
  have l1 : a.length = js.length := by have := congrArg List.length e; rw [List.length_map, List.length_map] at this; exact this
  have l2 : b.length = js'.length := by have := congrArg List.length e'; rw [List.length_map, List.length_map] at this; exact this
  have p : js.Perm js' := (List.perm_ext_iff_of_nodup nd nd').mpr fun k => (mem k).trans (mem' k).symm
  rw [l1, l2, p.length_eq]
/-- a house's table and log: the program's own way -/
theorem nl_up : ∀ (n : Nat) (d : PyData), nl n d = true → nl (n + 1) d = true
  | 0, .none, _ => rfl
  | 0, .bool _, _ => rfl
  | 0, .int _, _ => rfl
  | 0, .str _, _ => rfl
  | 0, .list _, h => by cases h
  | 0, .tuple _, h => by cases h
  | 0, .dict _, _ => rfl
  | n + 1, .none, _ => rfl
  | n + 1, .bool _, _ => rfl
  | n + 1, .int _, _ => rfl
  | n + 1, .str _, _ => rfl
  | n + 1, .list _, h => by cases h
  | n + 1, .dict _, _ => rfl
  | n + 1, .tuple ds, h => List.all_eq_true.mpr fun d m => nl_up n d (List.all_eq_true.mp h d m)
end Tc
/-! what is collected, in its order; a drawn table's rows rise with the keys -/
namespace Tc
open PySem L2 Evl PyProof.Rows
structure ColW (b : Addr) (K : PySem.W.Frag) (W : Nat → List PyData → Prop) (H : Hp) (D : Addr) (i : Nat) (H' : Hp) : Prop where
  fr : Fr b H H'
  new : H D = none
  ne : D ≠ b
  ex : ∃ (vs : List V) (ds : List PyData), H' D = some (.lst vs) ∧ DpAll K (hid D (hid b H')) vs ds ∧ vs.length ≤ i ∧ W i ds
section
variable {b D : Addr} {K : PySem.W.Frag} {W : Nat → List PyData → Prop} {H H' H4 : Hp} {i : Nat} {y : V} {d : PyData}
theorem ColW.start (hB : Bag H b) (hD : H D = none) (w : W 0 []) : ColW b K W H D 0 (upd H D (.lst [])) := ⟨Fr.new hB hD, hD, hB.ne hD, [], [], upd_same, .nil, Nat.le_refl _, w⟩
theorem ColW.skip (c : ColW b K W H D i H') (f : Fr b H' H4) (w : ∀ ds, W i ds → W (i + 1) ds) : ColW b K W H D (i + 1) H4 := by
  obtain ⟨vs, ds, h1, h2, h3, h4⟩ := c.ex
  exact ⟨c.fr.trans f, c.new, c.ne, vs, ds, f.at h1 c.ne, dps_same (same_hid f.sm) _ _ h2, Nat.le_succ_of_le h3, w _ h4⟩
theorem ColW.push (c : ColW b K W H D i H') (f : Fr b H' H4) (hy : Dp K (hid D (hid b H4)) y d) (w : ∀ ds, W i ds → W (i + 1) (ds ++ [d])) (hi : i < 10000) : ∃ acc, H4 D = some (.lst acc) ∧ acc.length < sizeLine ∧ ColW b K W H D (i + 1) (upd H4 D (.lst (acc ++ [y]))) := by
  obtain ⟨vs, ds, h1, h2, h3, h4⟩ := c.ex
  refine ⟨vs, f.at h1 c.ne, sz_lt (by omega), Fr.mut (c.fr.trans f) c.new c.ne, c.new, c.ne, vs ++ [y], ds ++ [d], upd_same, ?_, by rw [List.length_append]; exact Nat.succ_le_succ h3, w _ h4⟩
  rw [hid_upd2 _ _ c.ne]
  exact dps_app (dps_same (same_hid f.sm) _ _ h2) (.cons hy .nil)
theorem ColW.at (c : ColW b K W H D i H') : H' D ≠ none := by
  obtain ⟨vs, ds, h1, _⟩ := c.ex
  exact fun z => by
    rw [h1] at z
    cases z
end
theorem lt_take {ks : List Int} {i : Nat} {kk x : Int} (pw : ks.Pairwise (· < ·)) (h : ks[i]? = some kk) (m : x ∈ ks.take i) : x < kk := by
  have e : ks.take (i + 1) = ks.take i ++ [kk] := by
    rw [List.take_succ, h]
    rfl
  have p := pw.sublist (List.take_sublist (i + 1) ks)
  rw [e] at p
  exact (List.pairwise_append.mp p).2.2 x m kk (List.mem_singleton_self _)
def rowsUp (ks : List Int) (i : Nat) (ds : List PyData) : Prop := ∃ rs : List (Int × Int), ds = rs.map pairD ∧ (∀ r ∈ rs, r.1 ∈ ks.take i ∧ 0 ≤ r.2 ∧ r.2 < 1000) ∧ (ks.Pairwise (· < ·) → rs.Pairwise fun a b => a.1 < b.1)
theorem rowsUp.skip {ks : List Int} {i : Nat} {ds : List PyData} (h : rowsUp ks i ds) : rowsUp ks (i + 1) ds := by
  obtain ⟨rs, e, h1, h2⟩ := h
  refine ⟨rs, e, fun r m => ⟨?_, (h1 r m).2⟩, h2⟩
  have := (h1 r m).1
  rw [List.take_succ]
  exact List.mem_append_left _ this
theorem rowsUp.push {ks : List Int} {i : Nat} {ds : List PyData} {kk w : Int} (h : rowsUp ks i ds) (hk : ks[i]? = some kk) (hw : 0 ≤ w ∧ w < 1000) : rowsUp ks (i + 1) (ds ++ [pairD (kk, w)]) := by
  obtain ⟨rs, e, h1, h2⟩ := h
  refine ⟨rs ++ [(kk, w)], by rw [e, List.map_append]; rfl, fun r m => ?_, fun pw => List.pairwise_append.mpr ⟨h2 pw, List.pairwise_singleton _ _, fun a ma c mc => ?_⟩⟩
  · rw [List.take_succ, hk]
    rcases List.mem_append.mp m with m | m
    · exact ⟨List.mem_append_left _ (h1 r m).1, (h1 r m).2⟩
    · rw [List.mem_singleton.mp m]
      exact ⟨List.mem_append_right _ (List.mem_singleton_self _), hw⟩
  · rw [List.mem_singleton.mp mc]
    exact lt_take pw hk (h1 a ma).1
end Tc
/-! draws in tests and in ranges -/
namespace Tc
open PySem L2 Evl
section
variable {b : Addr} {σ : L2.St} {H : Hp} {i : Nat} {m : Int} {E : XK} {D : Ends} {tu tw : TS}
/-- if _law_take(bag, m) == 0 -/
theorem if_draw (hB : Bag H b) (hσ : σ[i]? = some (some (.ref b))) (h0 : 0 < m) (h1 : m < 1073741824) (y : ∀ H', Fr b H H' → tu D σ H') (n : ∀ H', Fr b H H' → tw D σ H') : tIfS (tTest (tOp rEq (tCall spTake [] E (tCons (tVar i) (tCons (tC (.int m)) tNil))) (tC (.int 0)))) tu tw D σ H :=
  take_of hB (ea_cons (ev_var hσ) (ea_cons ev_c ea_nil)) h0 h1 fun r H' f _ _ => ⟨rfl, _, rfl, ite2 (fun _ => y H' f) (fun _ => n H' f)⟩
/-- for .. in range(_law_take(bag, m)) -/
theorem for_draw {j : Nat} (Pv : Nat → L2.St → Hp → Prop) (hB : Bag H b) (hσ : σ[i]? = some (some (.ref b))) (h0 : 0 < m) (h1 : m < 10000) (hp : ∀ H', Fr b H H' → Pv 0 σ H')
    (hs : ∀ (i : Nat) σ' H', (i : Int) < m → Pv i σ' H' → tu { D with nx := Pv (i + 1), ct := Pv (i + 1), bk := D.nx } (σ'.set j (some (.int (0 + (i : Int))))) H') (hd : ∀ (n : Nat) σ' H', (n : Int) ≤ m → Pv n σ' H' → D.nx σ' H') : tFor (iRng1 (tCons (tCall spTake [] E (tCons (tVar i) (tCons (tC (.int m)) tNil))) tNil)) (gName j) tu D σ H :=
  take_of hB (ea_cons (ev_var hσ) (ea_cons ev_c ea_nil)) h0 (by omega) fun r H' f r0 r1 => ⟨r, rfl, by omega, by omega, for_range (lo := 0) (n := r.toNat) Pv (hp H' f) (fun i σ' G hi p => hs i σ' G (by omega) p) (fun σ' G p => hd r.toNat σ' G (by omega) p)⟩
end
end Tc
/-! a house and its readings, as they stand and as they are told -/
namespace Tc
open PySem L2 Evl
/-- all keys -/
def allKs : List Int := (List.range 1000).map fun (i : Nat) => (i : Int)
theorem allKs_len : allKs.length = 1000 := by unfold allKs; rw [List.length_map, List.length_range]
theorem allKs_mem {k : Int} (h0 : 0 ≤ k) (h1 : k < 1000) : k ∈ allKs := List.mem_map.mpr ⟨k.toNat, List.mem_range.mpr (by omega), by omega⟩
theorem allKs_in {k : Int} (h : k ∈ allKs) : 0 ≤ k ∧ k < 1000 := by
  obtain ⟨i, m, rfl⟩ := List.mem_map.mp h
  have := List.mem_range.mp m
  omega
def opV : Option Int → V
  | some z => .int z
  | none => .non
/-- the lives, each with the place that it holds -/
def lvV (l : List (Int × Option Int)) : List (Key × V) := l.map fun r => (.inl r.1, opV r.2)
def hoD (l : List (Int × Option Int)) : List PyData := l.filterMap fun r => r.2.map fun z => pairD (r.1, z)
/-- a reading -/
structure Rdg where
  num : Int
  own : Int
  lo : Int
  hi : Int
  found : List (Int × Int)
  ended : Bool
/-- a reading that is one -/
structure RgOk (x : Rdg) : Prop where
  a : 0 ≤ x.lo
  b : x.lo < x.hi
  c : x.hi ≤ 1000
  f : ∀ r ∈ x.found, 0 ≤ r.1 ∧ r.1 < 1000
  g : x.found.Pairwise fun a b => a.1 < b.1
/-- a house -/
structure HM where
  f : Int → Option Int
  log : List PyData
  fk : Nat
  lg : Nat
  bg : Nat
  liv : List (Int × Option Int)
  run : List Rdg
def rfd (own : Int) (st fl : Addr) (en : Bool) : List (Str × V) := [("owner", .int own), ("stretch", .ref st), ("found", .ref fl), ("ended", .bl en)]
section
variable (own : Int) (st fl : Addr) (en : Bool)
theorem rl_owner : (rfd own st fl en).lookup ("owner" : Str) = some (.int own) := by simp only [rfd, List.lookup]; rfl
theorem rl_stretch : (rfd own st fl en).lookup ("stretch" : Str) = some (.ref st) := by simp only [rfd, List.lookup]; rfl
theorem rl_found : (rfd own st fl en).lookup ("found" : Str) = some (.ref fl) := by simp only [rfd, List.lookup]; rfl
theorem rl_ended : (rfd own st fl en).lookup ("ended" : Str) = some (.bl en) := by simp only [rfd, List.lookup]; rfl
theorem rp_ended (z : Bool) : putF "ended" (.bl z) (rfd own st fl en) = rfd own st fl z := by simp only [rfd, putF]; rfl
theorem rfd_made : putF "ended" (.bl en) (putF "found" (.ref fl) (putF "stretch" (.ref st) (putF "owner" (.int own) []))) = rfd own st fl en := by
  simp only [rfd, putF]
  rfl
theorem rfd_no {m : Str} (h : (m == ("owner" : Str)) = false ∧ (m == ("stretch" : Str)) = false ∧ (m == ("found" : Str)) = false ∧ (m == ("ended" : Str)) = false) : (rfd own st fl en).lookup m = none := by
  obtain ⟨h1, h2, h3, h4⟩ := h
  simp only [rfd, List.lookup, h1, h2, h3, h4]
end
/-- what is known of the class of readings -/
structure RTx (K : PySem.W.Frag) (mg : Str → Option Value) (R : Addr) : Prop where
  cl : Cls K R
  aO : NoAttr K R "owner"
  aS : NoAttr K R "stretch"
  aF : NoAttr K R "found"
  aE : NoAttr K R "ended"
  mgC : mg "Reading" = some (.ref R)
/-- a reading at r, its rows at fl -/
structure RdAt (K : PySem.W.Frag) (R : Addr) (H : Hp) (r fl : Addr) (x : Rdg) : Prop where
  ob : ∃ dx st, H r = some (.ins R dx (rfd x.own st fl x.ended)) ∧ SqT K H st [.int x.lo, .int x.hi]
  fo : ∃ vs, H fl = some (.lst vs) ∧ DpAll K H vs (x.found.map pairD)
theorem RdAt.keep {K : PySem.W.Frag} {R : Addr} {H H' : Hp} {r fl : Addr} {x : Rdg} (h : RdAt K R H r fl x) (e1 : ∀ o, H r = some o → H' r = some o) (e2 : ∀ o, H fl = some o → H' fl = some o) (kt : Kt H H') : RdAt K R H' r fl x := by
  obtain ⟨⟨dx, st, h1, h2⟩, vs, h3, h4⟩ := h
  exact ⟨⟨dx, st, e1 _ h1, kt.t h2⟩, vs, e2 _ h3, kt.dps (n := 1) (fun d m => by
    obtain ⟨r, _, rfl⟩ := List.mem_map.mp m
    rfl) h4⟩
def rnV (l : List (Rdg × Addr × Addr)) : List (Key × V) := l.map fun t => (.inl t.1.num, .ref t.2.1)
/-- what the house holds as its own -/
def fpL (p dW dK dL dR : Addr) (l : List (Rdg × Addr × Addr)) : List Addr := p :: dW :: dK :: dL :: dR :: l.flatMap fun t => [t.2.1, t.2.2]
structure HsB (K : PySem.W.Frag) (C R : Addr) (H : Hp) (p dW dK dL dR : Addr) (kvs : List (Key × V)) (kept : List V) (l : List (Rdg × Addr × Addr)) (m : HM) : Prop where
  at' : HsAt C H p dW dK dL dR kvs kept m.fk m.lg m.bg (lvV m.liv) (rnV l)
  di : DI allKs kvs m.f
  lo : DpAll K H kept m.log
  go : ∀ d ∈ m.log, goodEn allKs d = true
  lv : m.liv.Pairwise fun x y => x.1 < y.1
  lb : ∀ r ∈ m.liv, 1 ≤ r.1 ∧ r.1 ≤ m.lg
  rn : l.map (·.1) = m.run
  rp : m.run.Pairwise fun x y => x.num < y.num
  rb : ∀ x ∈ m.run, 0 ≤ x.num ∧ x.num < m.bg
  rk : ∀ x ∈ m.run, RgOk x
  rd : ∀ t ∈ l, RdAt K R H t.2.1 t.2.2 t.1
  nd : (fpL p dW dK dL dR l).Nodup
/-- a house at p that holds just X -/
def HsM (K : PySem.W.Frag) (C R : Addr) (H : Hp) (p : Addr) (m : HM) (X : Addr → Prop) : Prop := ∃ dW dK dL dR kvs kept l, HsB K C R H p dW dK dL dR kvs kept l m ∧ ∀ a, X a ↔ a ∈ fpL p dW dK dL dR l
def Off (X : Addr → Prop) (H H' : Hp) : Prop := ∀ a o, ¬ X a → H a = some o → H' a = some o
/-- no tuple -/
def NoT (H : Hp) (a : Addr) : Prop := ∃ o, H a = some o ∧ (∀ xs, o ≠ .tup xs) ∧ ∀ o' xs, o ≠ .frz o' (.tup xs)
theorem Off.kt {X : Addr → Prop} {H H' : Hp} (h : ∀ a, X a → NoT H a) (e : Off X H H') : Kt H H' := Kt.but X h e
theorem Off.ex {X : Addr → Prop} {H H' : Hp} (x : Ex H H') : Off X H H' := fun a o _ h => x a o h
theorem Off.trans {X : Addr → Prop} {H H1 H2 : Hp} (a : Off X H H1) (b : Off X H1 H2) : Off X H H2 := fun x o n h => b x o n (a x o n h)
/-- what stands behind a call: the house is m' now, all else stays -/
def HOut (K : PySem.W.Frag) (C R : Addr) (H : Hp) (p : Addr) (X : Addr → Prop) (m' : HM) (H' : Hp) : Prop := ∃ X', HsM K C R H' p m' X' ∧ Off X H H' ∧ ∀ a, X' a → X a ∨ H a = none
section
variable {K : PySem.W.Frag} {C R : Addr} {H H' : Hp} {p dW dK dL dR : Addr} {kvs : List (Key × V)} {kept : List V} {l : List (Rdg × Addr × Addr)} {m : HM} {X : Addr → Prop}
theorem fp_p : p ∈ fpL p dW dK dL dR l := List.mem_cons_self
theorem fp_W : dW ∈ fpL p dW dK dL dR l := List.mem_cons_of_mem _ List.mem_cons_self
theorem fp_K : dK ∈ fpL p dW dK dL dR l := List.mem_cons_of_mem _ (List.mem_cons_of_mem _ List.mem_cons_self)
theorem fp_L : dL ∈ fpL p dW dK dL dR l := List.mem_cons_of_mem _ (List.mem_cons_of_mem _ (List.mem_cons_of_mem _ List.mem_cons_self))
theorem fp_R : dR ∈ fpL p dW dK dL dR l := List.mem_cons_of_mem _ (List.mem_cons_of_mem _ (List.mem_cons_of_mem _ (List.mem_cons_of_mem _ List.mem_cons_self)))
theorem fp_r {t : Rdg × Addr × Addr} (h : t ∈ l) : t.2.1 ∈ fpL p dW dK dL dR l ∧ t.2.2 ∈ fpL p dW dK dL dR l := by
  have g : ∀ a ∈ [t.2.1, t.2.2], a ∈ fpL p dW dK dL dR l := fun a ha => List.mem_cons_of_mem _ (List.mem_cons_of_mem _ (List.mem_cons_of_mem _ (List.mem_cons_of_mem _ (List.mem_cons_of_mem _ (List.mem_flatMap.mpr ⟨t, h, ha⟩)))))
  exact ⟨g _ List.mem_cons_self, g _ (List.mem_cons_of_mem _ List.mem_cons_self)⟩
theorem HsB.noT (S : HsB K C R H p dW dK dL dR kvs kept l m) : ∀ a ∈ fpL p dW dK dL dR l, NoT H a := fun a ha => by
  obtain ⟨dx, hp⟩ := S.at'.ob
  unfold fpL at ha
  rcases List.mem_cons.mp ha with rfl | ha
  · exact ⟨_, hp, (fun xs z => by cases z), fun o xs z => by cases z⟩
  rcases List.mem_cons.mp ha with rfl | ha
  · exact ⟨_, S.at'.wo, (fun xs z => by cases z), fun o xs z => by cases z⟩
  rcases List.mem_cons.mp ha with rfl | ha
  · exact ⟨_, S.at'.ke, (fun xs z => by cases z), fun o xs z => by cases z⟩
  rcases List.mem_cons.mp ha with rfl | ha
  · exact ⟨_, S.at'.li, (fun xs z => by cases z), fun o xs z => by cases z⟩
  rcases List.mem_cons.mp ha with rfl | ha
  · exact ⟨_, S.at'.ru, (fun xs z => by cases z), fun o xs z => by cases z⟩
  obtain ⟨t, mt, ha⟩ := List.mem_flatMap.mp ha
  obtain ⟨⟨dx, st, h1, _⟩, vs, h3, _⟩ := S.rd t mt
  simp only [List.mem_cons, List.not_mem_nil, or_false] at ha
  rcases ha with rfl | rfl
  · exact ⟨_, h1, (fun xs z => by cases z), fun o xs z => by cases z⟩
  · exact ⟨_, h3, (fun xs z => by cases z), fun o xs z => by cases z⟩
/-- what is its own stays, and tuples: then the house does -/
theorem HsB.keep (S : HsB K C R H p dW dK dL dR kvs kept l m) (e : ∀ a o, a ∈ fpL p dW dK dL dR l → H a = some o → H' a = some o) (kt : Kt H H') : HsB K C R H' p dW dK dL dR kvs kept l m := by
  obtain ⟨dx, hp⟩ := S.at'.ob
  refine ⟨⟨⟨dx, e _ _ fp_p hp⟩, e _ _ fp_W S.at'.wo, e _ _ fp_K S.at'.ke, e _ _ fp_L S.at'.li, e _ _ fp_R S.at'.ru, S.at'.n1, S.at'.n2, S.at'.n3⟩, S.di, kt.dps (fun d m => nl_en (S.go d m)) S.lo, S.go, S.lv, S.lb, S.rn, S.rp, S.rb, S.rk, fun t mt => ?_, S.nd⟩
  exact (S.rd t mt).keep (fun o h => e _ _ (fp_r mt).1 h) (fun o h => e _ _ (fp_r mt).2 h) kt
theorem HsM.keep (S : HsM K C R H p m X) (e : ∀ a o, X a → H a = some o → H' a = some o) (kt : Kt H H') : HsM K C R H' p m X := by
  obtain ⟨dW, dK, dL, dR, kvs, kept, l, B, fx⟩ := S
  exact ⟨dW, dK, dL, dR, kvs, kept, l, B.keep (fun a o h => e a o ((fx a).mpr h)) kt, fx⟩
theorem HsM.ex (S : HsM K C R H p m X) (x : Ex H H') : HsM K C R H' p m X := S.keep (fun a o _ h => x a o h) (Kt.ex x)
theorem HsM.noT (S : HsM K C R H p m X) : ∀ a, X a → NoT H a := fun a h => by
  obtain ⟨dW, dK, dL, dR, kvs, kept, l, B, fx⟩ := S
  exact B.noT a ((fx a).mp h)
theorem HsM.fr {b : Addr} (S : HsM K C R H p m X) (hB : Bag H b) (f : Fr b H H') (n : ¬ X b) : HsM K C R H' p m X := S.keep (fun a o h z => f.at z fun y => n (y ▸ h)) (Kt.fr hB f)
theorem HOut.refl (S : HsM K C R H p m X) : HOut K C R H p X m H := ⟨X, S, fun _ _ _ h => h, fun _ h => .inl h⟩
/-- ahead of it something more was laid -/
theorem HOut.pre {H1 : Hp} (x : Ex H H1) (h : HOut K C R H1 p X m H') : HOut K C R H p X m H' := by
  obtain ⟨X', S, o, n⟩ := h
  exact ⟨X', S, (Off.ex x).trans o, fun a ha => (n a ha).imp id fun z => fresh_back x z⟩
theorem HOut.post {H1 : Hp} (h : HOut K C R H p X m H1) (x : Ex H1 H') : HOut K C R H p X m H' := by
  obtain ⟨X', S, o, n⟩ := h
  exact ⟨X', S.ex x, o.trans (Off.ex x), n⟩
end
end Tc
/-! raising, said once -/
namespace Tc
open PySem L2 L2H PyProof.Rows Evl NdefX
theorem raise_go {C : Addr} {f : Str} {Kf : Value → Option Addr → Hp → Prop} {σ : L2.St} {H : Hp} {t : TA} {i : Int} (ha : EvA t σ H [.int i]) (hb : i.natAbs.log2 < 1920) (q : ∀ d H', H d = none → Ex H H' → H' d = some (.xd [(f, .int i)]) → Kf (.ref C) (some d) H') : tMkO C (spX1 C f) [] t σ H Kf := by
  refine ha H (Ex.refl H) _ fun H1 x1 => ⟨by simp, fun a na => ⟨a, i, rfl, upd_same, hb, fun d H2 hd da h2 h3 k => ⟨rfl, d, _, h2, h3, ?_, ?_⟩⟩⟩
  · rw [upd_ne da] at hd
    exact hd
  · rw [upd_ne da] at hd
    refine q d _ (fresh_back x1 hd) (fun b o hb => ?_) upd_same
    have hb1 := x1 b o hb
    have ba := ne_of_none hb1 na
    exact (upd_ne (ne_of_none hb1 hd)).trans ((del_ne ba).trans (k b o ba ((upd_ne ba).trans hb1)))
end Tc
/-! xs += ys of lists; range by twos -/
namespace Tc
open PySem PySem.Spec PyProof.Rows L2
theorem li_seqI : seqSlot? (.type "list") (dunderI "add") = pure (some (.builtin "list.__iadd__")) := PySem.seqSlot_of PySem.F.slot_list_iadd.lookup (by decide +kernel)
theorem li_fillI : fillsInplaceSlot (.type "list") "add" (Operator.Add == .Add) = pure false := by
  unfold fillsInplaceSlot
  have e : isSeqSlot (some (.builtin "list.__iadd__")) = true := by decide +kernel
  show (typeLookup (.type "list") (dunderI "add") >>= fun z => pure (z.isSome && !isSeqSlot z)) = pure false
  rw [PySem.F.slot_list_iadd.lookup, pure_bind, e]
  rfl
theorem li_iadd {M : Model} {A : Around} {E : Value → Shared → Prop} {s : Shared} {a b : Value} {Q : Value → Shared → Prop} (ha : s.TypeIs a "list") (hb : s.TypeIs b "list") (go : wpAny M A (call (.builtin "list.__iadd__") [a, b]) Q E s) : wpAny M A (inplaceOp .Add a b) Q E s := by
  unfold inplaceOp
  refine wpAny_holding (wpAny_bind (wpAny_typeOf ha (wpAny_bind (wpAny_of_eq li_fillI ?_))))
  rw [if_neg (show ¬ false = true by decide)]
  exact wpAny_bind (wpAny_binaryOp1_none (nm := "add") ha hb noFill_list_add (wpAny_bind (wpAny_of_eq li_seqI (wpAny_bind (wpAny_rule go)))))
/-- a list made longer by another one -/
def ipCat : TIp := fun x y H Q => ∃ (l b : Addr) (xs zs : List V), x = .ref l ∧ y = .ref b ∧ H l = some (.lst xs) ∧ H b = some (.lst zs) ∧ xs.length + zs.length ≤ sizeLine ∧ Q (.ref l) (upd H l (.lst (xs ++ zs)))
theorem ip_cat {X : Cx} : PIp X .Add ipCat := by
  intro pins s σ H x y v u Q I rx ry ⟨l, b, xs, zs, ex, ey, hl, hb, few, q⟩
  subst ex
  subst ey
  obtain rfl : v = Value.ref l := rx; obtain rfl : u = Value.ref b := ry
  obtain ⟨z, its, n, r, _, e⟩ := I.lstM hl
  obtain ⟨z2, its2, n2, r2, _, e2⟩ := I.lstM hb
  have fit : its.toArray.size + its2.toArray.size ≤ sizeLine := by
    simp only [List.size_toArray]; omega
  have nol : ¬ (!its.toArray.isEmpty && Builtin.List.listTooLong (its.toArray.size + its2.toArray.size)) = true := by
    rw [notLongL fit, Bool.and_false]
    decide
  refine li_iadd ⟨_, e, rfl⟩ ⟨_, e2, rfl⟩ (call_meets PySem.F.slot_list_iadd ⟨_, e, rfl⟩ PySem.F.entry_list_iadd (PySem.F.args_list_iadd_2 _ _) (AutoSeq1.list___iadd___list_list_0 l its.toArray n b its2.toArray n2 nol (by rw [List.size_toArray]; omega) (by omega)) ⟨e, e2, ?_⟩)
  exact ⟨.ref l, _, I.lset (its' := its ++ its2) hl e (by simp) (r.append r2) (by rw [List.length_append]; omega), rfl, q⟩
theorem rg_small {m : Int} {j : Int} (e : Builtin.Range.rangeSize 0 j 2 = m) (h0 : 0 ≤ m) (h1 : m < 100000) (h2 : 0 ≤ j) (h3 : j < 1000000) : Builtin.Range.small 0 j 2 = true := by
  unfold Builtin.Range.small
  rw [e]
  simp only [Builtin.Range.rangeFitsLong, Bool.and_eq_true, Bool.or_eq_true, decide_eq_true_eq, beq_iff_eq, show ((2 : Int) > 0) = True from eq_true (by decide), if_true]
  omega
theorem rg_two {n : Nat} (h : n < 100000) : RgC 0 ((2 * n : Nat) : Int) 2 n := by
  have e : Builtin.Range.rangeSize 0 ((2 * n : Nat) : Int) 2 = (n : Int) := by
    unfold Builtin.Range.rangeSize; rw [if_pos (by decide)]
    split <;> omega
  exact ⟨by decide, by decide, rg_small e (by omega) (by omega) (by omega) (by omega), e⟩
/-- a list's comprehension over a range by steps -/
theorem lc_step {lo c : Int} {n : Nat} {g : TG} {tt : TT} {te : TE} {own : List Nat} {σ : L2.St} {H1 : Hp} {D : Addr} {Fin : Hp → Prop} (Pv : Nat → Hp → Prop) (h0 : Pv 0 (upd H1 D (.lst [])))
    (turn : ∀ j G, j < n → Pv j G → g (.int (lo + (j : Nat) * c)) (wipe σ own) G fun τ G2 => wipe τ own = wipe σ own ∧ tt τ G2 fun b G3 => if b = true then (te τ G3 fun y G4 => ∃ acc, G4 D = some (.lst acc) ∧ acc.length < sizeLine ∧ Pv (j + 1) (upd G4 D (.lst (acc ++ [y])))) else Pv (j + 1) G3) (fin : ∀ G, Pv n G → Fin G) :
    ∃ R : Nat → Nat → Hp → Prop, (∃ m, R 0 m (upd H1 D (.lst []))) ∧ ∀ j m G, R j m G → ((L2.Itc lo c n).stop j G ∧ Fin G) ∨ ((L2.Itc lo c n).go j G ∧ ∃ On : Hp → Prop, (∀ G', On G' → ∃ m', m' < m ∧ R (j + 1) m' G') ∧
      ∀ x G', (L2.Itc lo c n).yld j G x G' → g x (wipe σ own) G' fun τ G2 => wipe τ own = wipe σ own ∧ tt τ G2 fun b G3 => if b = true then (te τ G3 fun y G4 => ∃ acc, G4 D = some (.lst acc) ∧ acc.length < sizeLine ∧ On (upd G4 D (.lst (acc ++ [y])))) else On G3) := by
  refine ⟨fun j m G => j ≤ n ∧ m = n - j ∧ Pv j G, ⟨_, Nat.zero_le _, rfl, h0⟩, fun j m G ⟨hj, em, p⟩ => ?_⟩
  rcases Nat.lt_or_ge j n with lt | ge
  · refine .inr ⟨lt, Pv (j + 1), fun G' p' => ⟨n - (j + 1), by omega, by omega, rfl, p'⟩, ?_⟩
    rintro x G' ⟨rfl, rfl⟩
    exact turn j _ lt p
  · obtain rfl : j = n := by omega
    exact .inl ⟨Nat.le_refl _, fin G p⟩
end Tc
namespace K27
open PySem L2 PyProof.Rows Tc Evl
def topS (i : Nat) : Stmt := PySem.Challenge.pw_tidecopy_k27_whole_several_takers.main.body.getD i (.Pass ⟨0, 0, 0, 0⟩)
/-- what the module's names hold -/
structure Names (mg : Str → Option Value) : Prop where
  isinstance : mg "isinstance" = none
  int : mg "int" = none
  bool : mg "bool" = none
  tuple : mg "tuple" = none
  list : mg "list" = none
  str : mg "str" = none
  len : mg "len" = none
  set : mg "set" = none
  sorted : mg "sorted" = none
  range : mg "range" = none
  abs : mg "abs" = none
  min : mg "min" = none
  max : mg "max" = none
  dict : mg "dict" = none
  all : mg "all" = none
  ve : mg "ValueError" = none
  KEYS : ∃ t, mg "KEYS" = some (.int 1000 t)
  WORTHS : ∃ t, mg "WORTHS" = some (.int 1000 t)

def isNum : PyData → Bool
  | .int _ => true | _ => false
theorem isNum_eq (d : PyData) : isNum d = (isInt d && !isBool d) := by cases d <;> rfl
def isKey : PyData → Bool
  | .int i => decide (0 ≤ i) && decide (i < 1000) | _ => false
def isRow : PyData → Bool
  | .tuple [k, w] => isKey k && isKey w | _ => false
def keyOf : PyData → Int
  | .tuple (.int k :: _) => k | _ => 0
def rising : Int → List PyData → Bool
  | _, [] => true
  | least, d :: r => isRow d && decide (least ≤ keyOf d) && rising (keyOf d + 1) r
section
variable {P : Program} {w : World} {K : PySem.W.Frag} {mg : Str → Option Value} {base : Heap}
abbrev sNum : Stmt := topS 31
theorem scNum : FnScope ["thing"] ["thing"] (defScope sNum) := ⟨rfl, rfl, rfl, by decide +kernel, rfl, by decide +kernel, by decide +kernel⟩
theorem ok_num {f : Addr} {fd : FuncData} {k : Nat} (F : Fun K "is_number" "is_number" sNum f fd) (N : Names mg) : FnOk P w K mg base CX0 (k + 1) f fd ["thing"] (spTold K isNum) := by
  refine F.ok scNum (fun vs H Q E h => ?_) (fun cdv A outer s H vs Q E hr h => ?_)
  · obtain ⟨v, d, rfl, _⟩ := h
    rfl
  · obtain ⟨v, d, rfl, hd, q⟩ := h
    refine ⟨_, pss_one (ps_ret (pe_and (pe_callB call_isi (by rfl) N.isinstance boot_isinstance (pa_cons (pv 0) (pa_cons (pe_bltn (v := .ty "int") (by rfl) N.int boot_int rfl) pa_nil)))
      (pe_one (pe_not (pe_callB call_isi (by rfl) N.isinstance boot_isinstance (pa_cons (pv 0) (pa_cons (pe_bltn (v := .ty "bool") (by rfl) N.bool boot_bool rfl) pa_nil))))))), ?_⟩
    rw [isNum_eq] at q
    exact s_ret (ev_andV (ev_int (ev_var rfl) hd) fun _ => ev_notV (ev_bool (ev_var rfl) hd)) q
theorem num_int {H : Hp} {v : V} {d : PyData} (h : Dp K H v d) (e : isNum d = true) : ∃ i, v = .int i ∧ d = .int i := by
  cases h with
  | int i => exact ⟨i, rfl, rfl⟩
  | _ => cases e
theorem key_eq (d : PyData) : (isNum d && isKey d) = isKey d := by cases d <;> rfl
abbrev sKey : Stmt := topS 32
theorem scKey : FnScope ["thing"] ["thing"] (defScope sKey) := ⟨rfl, rfl, rfl, by decide +kernel, rfl, by decide +kernel, by decide +kernel⟩
theorem ok_key {f : Addr} {fd : FuncData} {k : Nat} (F : Fun K "is_key" "is_key" sKey f fd) (N : Names mg) (dN : Own P w K mg base "is_number" ["thing"] k (spTold K isNum)) : FnOk P w K mg base CX0 (k + 1) f fd ["thing"] (spTold K isKey) := by
  refine F.ok scKey (fun vs H Q E h => ?_) (fun cdv A outer s H vs Q E hr h => ?_)
  · obtain ⟨v, d, rfl, _⟩ := h
    rfl
  · obtain ⟨v, d, rfl, hd, q⟩ := h
    obtain ⟨tk, hK⟩ := N.KEYS
    refine ⟨_, pss_one (ps_ret (pe_and (pe_own dN hr (Nat.le_refl _) (by rfl) (pa_cons (pv 0) pa_nil)) (pe_one (pe_chain op_le op_lt pe_int (pv 0) (pe_glob (v := .int 1000) (by rfl) hK ⟨_, rfl⟩))))), ?_⟩
    refine s_ret (ev_is (ev_andV (b := isKey d) (ev_told (ev_var rfl) hd) fun e => ?_) (congrArg V.bl (key_eq d))) q
    obtain ⟨i, rfl, rfl⟩ := num_int hd e
    exact ev_chain (p := fun i j => decide (i ≤ j)) (p' := fun i j => decide (i < j)) ev_c (ev_var rfl) ev_c
abbrev sWorth : Stmt := topS 33
theorem scWorth : FnScope ["thing"] ["thing"] (defScope sWorth) := ⟨rfl, rfl, rfl, by decide +kernel, rfl, by decide +kernel, by decide +kernel⟩
theorem ok_worth {f : Addr} {fd : FuncData} {k : Nat} (F : Fun K "is_worth" "is_worth" sWorth f fd) (N : Names mg) (dN : Own P w K mg base "is_number" ["thing"] k (spTold K isNum)) : FnOk P w K mg base CX0 (k + 1) f fd ["thing"] (spTold K isKey) := by
  refine F.ok scWorth (fun vs H Q E h => ?_) (fun cdv A outer s H vs Q E hr h => ?_)
  · obtain ⟨v, d, rfl, _⟩ := h
    rfl
  · obtain ⟨v, d, rfl, hd, q⟩ := h
    obtain ⟨tk, hK⟩ := N.WORTHS
    refine ⟨_, pss_one (ps_ret (pe_and (pe_own dN hr (Nat.le_refl _) (by rfl) (pa_cons (pv 0) pa_nil)) (pe_one (pe_chain op_le op_lt pe_int (pv 0) (pe_glob (v := .int 1000) (by rfl) hK ⟨_, rfl⟩))))), ?_⟩
    refine s_ret (ev_is (ev_andV (b := isKey d) (ev_told (ev_var rfl) hd) fun e => ?_) (congrArg V.bl (key_eq d))) q
    obtain ⟨i, rfl, rfl⟩ := num_int hd e
    exact ev_chain (p := fun i j => decide (i ≤ j)) (p' := fun i j => decide (i < j)) ev_c (ev_var rfl) ev_c
theorem tup_dp {H : Hp} {v : V} {d : PyData} (h : Dp K H v d) (e : isTup d = true) : ∃ a xs ds, v = .ref a ∧ d = .tuple ds ∧ SqT K H a xs ∧ DpAll K H xs ds := by
  cases h with
  | tup h r => exact ⟨_, _, _, rfl, rfl, h, r⟩
  | _ => cases e
def rowB : PyData → Bool
  | .tuple ds => decide ((ds.length : Int) = 2) && (isKey (ds.getD 0 .none) && isKey (ds.getD 1 .none)) | _ => false
theorem row_eq (d : PyData) : (isTup d && rowB d) = isRow d := by
  cases d with
  | tuple ds =>
    match ds with
    | [] => rfl
    | [_] => rfl
    | [x, y] => rfl
    | x :: y :: z :: r =>
      show (decide ((((r.length + 1 + 1 + 1 : Nat)) : Int) = 2) && (isKey x && isKey y)) = false
      rw [decide_eq_false (by omega)]
      rfl
  | _ => rfl
abbrev sRow : Stmt := topS 34
theorem scRow : FnScope ["thing"] ["thing"] (defScope sRow) := ⟨rfl, rfl, rfl, by decide +kernel, rfl, by decide +kernel, by decide +kernel⟩
theorem ok_row {f : Addr} {fd : FuncData} {k : Nat} (F : Fun K "is_row" "is_row" sRow f fd) (N : Names mg) (dK : Own P w K mg base "is_key" ["thing"] k (spTold K isKey)) (dW : Own P w K mg base "is_worth" ["thing"] k (spTold K isKey)) :
    FnOk P w K mg base CX0 (k + 1) f fd ["thing"] (spTold K isRow) := by
  refine F.ok scRow (fun vs H Q E h => ?_) (fun cdv A outer s H vs Q E hr h => ?_)
  · obtain ⟨v, d, rfl, _⟩ := h
    rfl
  · obtain ⟨v, d, rfl, hd, q⟩ := h
    refine ⟨_, pss_one (ps_ret (pe_and (pe_callB call_isi (by rfl) N.isinstance boot_isinstance (pa_cons (pv 0) (pa_cons (pe_bltn (v := .ty "tuple") (by rfl) N.tuple boot_tuple rfl) pa_nil)))
      (pe_and (pe_cmpR op_eq (pe_callB call_len_seq (by rfl) N.len PySem.boot_len (pa_cons (pv 0) pa_nil)) pe_int (nomark _))
      (pe_and (pe_own dK hr (Nat.le_refl _) (by rfl) (pa_cons (pe_ix ix_tup (pv 0) pe_int (fun _ _ => rfl)) pa_nil))
      (pe_one (pe_own dW hr (Nat.le_refl _) (by rfl) (pa_cons (pe_ix ix_tup (pv 0) pe_int (fun _ _ => rfl)) pa_nil))))))), ?_⟩
    refine s_ret (ev_is (ev_andV (b := rowB d) (ev_tuple (ev_var rfl) hd) fun e => ?_) (congrArg V.bl (row_eq d))) q
    obtain ⟨a, xs, ds, rfl, rfl, hT, hA⟩ := tup_dp hd e
    have hl := dps_len hA
    refine ev_andV (ev_is (ev_op (ev_lenT (ev_var rfl) hT) ev_c (rv_eq rfl)) (congrArg V.bl ?_)) fun e2 => ?_
    · rw [hl]
      exact decide_eq_decide.mpr ⟨fun z => V.int.inj z, fun z => congrArg V.int z⟩
    · have e3 : ds.length = 2 := by
        have := of_decide_eq_true e2
        omega
      obtain ⟨d0, d1, rfl⟩ := two_of e3
      cases hA with
      | cons h0 r =>
        cases r with
        | cons h1 r2 =>
          cases r2
          exact ev_andV (a := isKey d0) (b := isKey d1) (ev_told (ev_ix0 (ev_var rfl) hT) h0) fun _ => ev_told (ev_ix1 (ev_var rfl) hT) h1
end
section
variable {P : Program} {w : World} {K : PySem.W.Frag} {mg : Str → Option Value} {base : Heap}
theorem key_int {H : Hp} {v : V} {d : PyData} (h : Dp K H v d) (e : isKey d = true) : ∃ i, v = .int i ∧ d = .int i ∧ 0 ≤ i ∧ i < 1000 := by
  cases h with
  | int i =>
    have p : (decide (0 ≤ i) && decide (i < 1000)) = true := e
    rw [Bool.and_eq_true, decide_eq_true_eq, decide_eq_true_eq] at p
    exact ⟨i, rfl, rfl, p.1, p.2⟩
  | _ => cases e
theorem row_two {ds : List PyData} (e : isRow (.tuple ds) = true) : ∃ d0 d1, ds = [d0, d1] ∧ isKey d0 = true ∧ isKey d1 = true := by
  match ds, e with
  | [d0, d1], e =>
    have e' : (isKey d0 && isKey d1) = true := e
    rw [Bool.and_eq_true] at e'
    exact ⟨d0, d1, rfl, e'.1, e'.2⟩
theorem row_dp {H : Hp} {v : V} {d : PyData} (h : Dp K H v d) (e : isRow d = true) : ∃ (a : Addr) (k z : Int), v = .ref a ∧ d = .tuple [.int k, .int z] ∧ SqT K H a [.int k, .int z] ∧ 0 ≤ k ∧ k < 1000 ∧ 0 ≤ z ∧ z < 1000 := by
  cases h with
  | @tup a xs ds h r =>
    obtain ⟨d0, d1, rfl, k0, k1⟩ := row_two e
    cases r with
    | cons h0 r =>
      cases r with
      | cons h1 r2 =>
        cases r2
        obtain ⟨k, rfl, rfl, p1, p2⟩ := key_int h0 k0
        obtain ⟨z, rfl, rfl, p3, p4⟩ := key_int h1 k1
        exact ⟨a, k, z, rfl, rfl, h, p1, p2, p3, p4⟩
  | _ => cases e
theorem rising_cons (l : Int) (ds : List PyData) (i : Nat) (d : PyData) (h : ds[i]? = some d) : rising l (ds.drop i) = (isRow d && decide (l ≤ keyOf d) && rising (keyOf d + 1) (ds.drop (i + 1))) := by
  have hi := (List.getElem?_eq_some_iff.mp h)
  obtain ⟨h1, h2⟩ := hi
  rw [List.drop_eq_getElem_cons h1, h2]
  rfl
/-- rows from a least key on, less than last -/
def risB (last : Int) : Int → List PyData → Bool
  | _, [] => true
  | least, d :: r => isRow d && (decide (least ≤ keyOf d) && decide (keyOf d < last)) && risB last (keyOf d + 1) r
theorem risB_cons (last l : Int) (ds : List PyData) (i : Nat) (d : PyData) (h : ds[i]? = some d) : risB last l (ds.drop i) = (isRow d && (decide (l ≤ keyOf d) && decide (keyOf d < last)) && risB last (keyOf d + 1) (ds.drop (i + 1))) := by
  obtain ⟨h1, h2⟩ := List.getElem?_eq_some_iff.mp h
  rw [List.drop_eq_getElem_cons h1, h2]
  rfl
theorem row_key {d : PyData} (h : isRow d = true) : keyOf d < 1000 := by
  unfold isRow at h
  split at h
  · rename_i k w
    rw [Bool.and_eq_true] at h
    cases k with
    | int i =>
      have h1 := h.1
      unfold isKey at h1
      rw [Bool.and_eq_true] at h1
      exact of_decide_eq_true h1.2
    | _ => cases h.1
  · cases h
theorem risB_all : ∀ (ds : List PyData) (l : Int), risB 1000 l ds = rising l ds
  | [], _ => rfl
  | d :: ds, l => by
    show (isRow d && (decide (l ≤ keyOf d) && decide (keyOf d < 1000)) && risB 1000 (keyOf d + 1) ds) = (isRow d && decide (l ≤ keyOf d) && rising (keyOf d + 1) ds)
    rw [risB_all ds]
    cases hr : isRow d with
    | false => rfl
    | true => rw [decide_eq_true (row_key hr), Bool.and_true]
def rowsB (a b : Int) : PyData → Bool
  | .tuple ds => risB b a ds
  | _ => false
def spRowsT (K : PySem.W.Frag) : Sp := fun vs H Q _ => ∃ (v : V) (d : PyData) (a b : Int), vs = [v, .int a, .int b] ∧ Dp K H v d ∧ ∀ H', Ex H H' → Q (.bl (rowsB a b d)) H'
abbrev sRows : Stmt := topS 35
theorem scRows : FnScope ["thing", "first", "last", "least", "row"] ["thing", "first", "last"] (defScope sRows) := ⟨rfl, rfl, rfl, by decide +kernel, rfl, by decide +kernel, by decide +kernel⟩
theorem ok_rows {f : Addr} {fd : FuncData} {k : Nat} (F : Fun K "is_rows" "is_rows" sRows f fd) (N : Names mg) (dR : Own P w K mg base "is_row" ["thing"] k (spTold K isRow)) :
    FnOk P w K mg base CX0 (k + 1) f fd ["thing", "first", "last"] (spRowsT K) := by
  refine F.ok scRows (fun vs H Q E h => ?_) (fun cdv A outer s H vs Q E hr h => ?_)
  · obtain ⟨v, d, a, b, rfl, _⟩ := h
    rfl
  · obtain ⟨v, d, lo, hi, rfl, hd, q⟩ := h
    refine ⟨_, pss_cons (ps_if (pt_not (pt_val (pe_callB call_isi (by rfl) N.isinstance boot_isinstance (pa_cons (pv 0) (pa_cons (pe_bltn (v := .ty "tuple") (by rfl) N.tuple boot_tuple rfl) pa_nil))))) (pss_one (ps_ret pe_bl)) pss_nil)
      (pss_cons (ps_set (i := 3) scRows.nd rfl (.inl rfl) (pv 1))
      (pss_cons (ps_for PassesOwn.never rfl (pi_tup (pv 0)) (pg_name (i := 4) scRows.nd rfl (.inl rfl))
        (pss_cons (ps_if (PW.pt (pw_or (pt_not (pt_val (pe_own dR hr (Nat.le_refl _) (by rfl) (pa_cons (pv 4) pa_nil))))
            (pw_or1 (pt_not (pt_chain op_le op_lt (pv 3) (pe_ix ix_tup (pv 4) pe_int (fun _ _ => rfl)) (pv 2)))))) (pss_one (ps_ret pe_bl)) pss_nil)
          (pss_one (ps_set (i := 3) scRows.nd rfl (.inl rfl) (pe_op op_add (pe_ix ix_tup (pv 4) pe_int (fun _ _ => rfl)) pe_int)))))
      (pss_one (ps_ret pe_bl)))), ?_⟩
    cases hT : isTup d with
    | false =>
      have e0 : rowsB lo hi d = false := by
        cases d <;> first | rfl | cases hT
      rw [e0] at q
      exact s_seq (s_if (b := true) (et_is (et_not (et_B (ev_tuple (ev_var rfl) hd))) (by rw [hT]; rfl)) (fun _ H1 x1 => s_ret ev_c fun H2 x2 => q H2 (x1.trans x2)) fun e => by cases e)
    | true =>
      obtain ⟨a, xs, ds, rfl, rfl, hS, hA⟩ := tup_dp hd hT
      have hl := dps_len hA
      have q' : ∀ H', Ex H H' → Q (.bl (risB hi lo ds)) H' := q
      refine s_seq (s_if (b := false) (et_is (et_not (et_B (ev_tuple (ev_var rfl) hd))) (by rw [hT]; rfl)) (fun e => by cases e) fun _ H1 x1 => s_next ?_)
      refine s_seq (s_asg (ev_var rfl) fun H2 x2 => s_seq ?_)
      refine s_forT (K := K) (a := a) (xs := xs) (ev_var rfl) (ex_t (x1.trans x2) hS) (fun i σ' H' => ∃ l y, σ' = [some (.ref a), some (.int lo), some (.int hi), some (.int l), y] ∧ Ex H H' ∧ risB hi lo ds = risB hi l (ds.drop i)) (fun H3 x3 => ⟨lo, none, rfl, (x1.trans x2).trans x3, rfl⟩) (fun i σ' H' _ p => ?_) (fun i x σ' H' hx p => ?_) (fun σ' H' p => ?_)
      · obtain ⟨_, _, _, xx, _⟩ := p
        exact ex_t xx hS
      · obtain ⟨l, y, rfl, xx, er⟩ := p
        obtain ⟨dx, hdx, hD⟩ := dps_at hA hx
        have hD' := dp_same xx _ _ hD
        rw [risB_cons hi l ds i dx hdx] at er
        show tSeq _ _ _ [some (V.ref a), some (V.int lo), some (V.int hi), some (V.int l), some x] H'
        cases hR : isRow dx with
        | false =>
          rw [hR] at er
          refine s_if (et_or (et_not (et_B (ev_told (ev_var rfl) hD'))) (b := false) fun e => ?_) (fun _ H1 x1 => s_ret ev_c fun H2 x2 => ?_) (fun e => ?_)
          · rw [hR] at e
            cases e
          · rw [er] at q'
            exact q' H2 ((xx.trans x1).trans x2)
          · rw [hR] at e
            cases e
        | true =>
          obtain ⟨b, kk, z, rfl, rfl, hb, _⟩ := row_dp hD' hR
          rw [hR] at er
          have er2 : risB hi lo ds = ((decide (l ≤ kk) && decide (kk < hi)) && risB hi (kk + 1) (ds.drop (i + 1))) := er
          refine s_if (et_or (et_not (et_B (ev_told (ev_var rfl) hD'))) fun e => et_not (et_test (ev_chain (p := fun i j => decide (i ≤ j)) (p' := fun i j => decide (i < j)) (ev_var rfl) (ev_ix0 (ev_var rfl) hb) (ev_var rfl)))) (fun e H1 x1 => s_ret ev_c fun H2 x2 => ?_) (fun e H1 x1 => ?_)
          · rw [hR] at e
            have e1 : (!(decide (l ≤ kk) && decide (kk < hi))) = true := e
            have e3 : (decide (l ≤ kk) && decide (kk < hi)) = false := by
              cases hz : (decide (l ≤ kk) && decide (kk < hi)) with
              | false => rfl
              | true =>
                rw [hz] at e1
                cases e1
            rw [er2, e3] at q'
            exact q' H2 ((xx.trans x1).trans x2)
          · rw [hR] at e
            have e1 : (!(decide (l ≤ kk) && decide (kk < hi))) = false := e
            have e3 : (decide (l ≤ kk) && decide (kk < hi)) = true := by
              cases hz : (decide (l ≤ kk) && decide (kk < hi)) with
              | true => rfl
              | false =>
                rw [hz] at e1
                cases e1
            rw [e3] at er2
            refine s_next (s_asg (ev_op (ev_ix0 (ev_var rfl) (ex_t x1 hb)) ev_c rv_I0) fun H2 x2 => ?_)
            exact ⟨kk + 1, _, rfl, (xx.trans x1).trans x2, er2⟩
      · obtain ⟨l, y, rfl, xx, er⟩ := p
        rw [hl, List.drop_length] at er
        have er3 : risB hi lo ds = true := er
        rw [er3] at q'
        dsimp only
        exact s_ret ev_c fun H2 x2 => q' H2 (xx.trans x2)
end
end K27
namespace K27
open PySem L2 PyProof.Rows Tc Evl
section
variable {P : Program} {w : World} {K : PySem.W.Frag} {mg : Str → Option Value} {base : Heap}
abbrev sTake : Stmt := topS 49
theorem scTake : FnScope ["bag", "many", "found"] ["bag", "many"] (defScope sTake) := ⟨rfl, rfl, rfl, by decide +kernel, rfl, by decide +kernel, by decide +kernel⟩
theorem ok_take {f : Addr} {fd : FuncData} {k : Nat} (F : Fun K "_law_take" "_law_take" sTake f fd) : FnOk P w K mg base CX0 (k + 1) f fd ["bag", "many"] spTake := by
  refine F.ok scTake (fun vs H Q E h => ?_) (fun cdv A outer s H vs Q E hr h => ?_)
  · obtain ⟨b, m, rfl, _⟩ := h
    rfl
  · obtain ⟨b, m, rfl, ⟨x, y, hb, hx, hy, hz⟩, hm, hm2, q⟩ := h
    refine ⟨_, pss_cons (ps_if (pt_cmpR op_gt (pe_ix ix_list (pv 0) pe_int (fun _ _ => rfl)) pe_int (nomark _))
        (pss_cons (ps_set (i := 2) scTake.nd rfl (.inl rfl) (pe_op op_mod (pe_ix ix_list (pv 0) pe_int (fun _ _ => rfl)) (pv 1)))
        (pss_cons (ps_asg (pe_op op_fdiv (pe_ix ix_list (pv 0) pe_int (fun _ _ => rfl)) (pv 1)) (pg_sub (pv 0) pe_int set_list))
        (pss_one (ps_ret (pv 2))))) pss_nil)
      (pss_cons (ps_asg (pe_op op_mod (pe_op op_mul (pe_ix ix_list (pv 0) pe_int (fun _ _ => rfl)) pe_int) pe_int) (pg_sub (pv 0) pe_int set_list))
      (pss_one (ps_ret (pe_op op_mod (pe_op op_fdiv (pe_op op_mod (pe_op op_mul (pe_ix ix_list (pv 0) pe_int (fun _ _ => rfl)) (pe_ix ix_list (pv 0) pe_int (fun _ _ => rfl))) pe_int) pe_int) (pv 1))))), ?_⟩
    have hS : SqL K H b [.int x, .int y] := sq_of hb
    refine s_if (et_test (ev_op (ev_l0 (ev_var rfl) hS) ev_c rv_I0)) (fun e H1 x1 => ?_) (fun e H1 x1 => ?_)
    · refine s_seq (s_asg (ev_op (ev_l0 (ev_var rfl) (ex_l x1 hS)) (ev_var rfl) (rv_mod hm)) fun H2 x2 => s_seq ?_)
      refine s_setL (l := b) (j := 0) (x2 b _ (x1 b _ hb)) (ev_op (ev_l0 (ev_var rfl) (ex_l (x1.trans x2) hS)) (ev_var rfl) (rv_fdiv hm hm2)) (ev_var rfl) ev_c (by simp) fun H3 x3 => ?_
      refine s_ret (ev_var rfl) fun H4 x4 => q _ _ ((Fr.put ((x1.trans x2).trans x3) (Int.ediv_nonneg hx (by omega)) hy hz).trans (Fr.ex ?_ x4)) (Int.emod_nonneg _ (by omega)) (Int.emod_lt_of_pos _ hm)
      exact ⟨x / m, y, upd_same, Int.ediv_nonneg hx (by omega), hy, hz⟩
    · have hS1 := ex_l x1 hS
      refine s_next (s_seq (s_setL (l := b) (j := 1) (x1 b _ hb) (ev_op (ev_op (ev_l1 (ev_var rfl) hS1) ev_c (rv_mul (.inl ⟨by omega, by omega⟩))) ev_c (rv_mod (by decide))) (ev_var rfl) ev_c (by simp) fun H2 x2 => ?_))
      have y1 := Int.emod_nonneg (y * 48271) (b := 2147483647) (by decide)
      have y2 := Int.emod_lt_of_pos (y * 48271) (b := 2147483647) (by decide)
      generalize hyy : y * 48271 % 2147483647 = yy at y1 y2
      have hb2 : (upd H2 b (.lst [.int x, .int yy])) b = some (.lst [.int x, .int yy]) := upd_same
      have hB : Bag (upd H2 b (.lst [.int x, .int yy])) b := ⟨x, yy, upd_same, hx, y1, by omega⟩
      have hS2 : SqL K (upd H2 b (.lst [.int x, .int yy])) b [.int x, .int yy] := sq_of upd_same
      refine s_ret (ev_op (ev_op (ev_op (ev_op (ev_l1 (ev_var rfl) hS2) (ev_l1 (ev_var rfl) hS2) (rv_mul (.inl ⟨by omega, by omega⟩))) ev_c (rv_mod (by decide))) ev_c (rv_fdiv (by decide) (by decide))) (ev_var rfl) (rv_mod hm)) fun H4 x4 => ?_
      exact q _ _ ((Fr.put (x1.trans x2) hx y1 (by omega)).trans (Fr.ex hB x4)) (Int.emod_nonneg _ (by omega)) (Int.emod_lt_of_pos _ hm)
abbrev sBag : Stmt := topS 48
theorem scBag : FnScope ["script", "k", "cell"] ["script", "k"] (defScope sBag) := ⟨rfl, rfl, rfl, by decide +kernel, rfl, by decide +kernel, by decide +kernel⟩
theorem ok_bag {f : Addr} {fd : FuncData} {k : Nat} (F : Fun K "_law_bag" "_law_bag" sBag f fd) (N : Names mg) : FnOk P w K mg base CX0 (k + 1) f fd ["script", "k"] (spBag K) := by
  refine F.ok scBag (fun vs H Q E h => ?_) (fun cdv A outer s H vs Q E hr h => ?_)
  · obtain ⟨a, ns, k, rfl, _⟩ := h
    rfl
  · obtain ⟨a, ns, n, rfl, hS, hn, q⟩ := h
    refine ⟨_, pss_cons (ps_set (i := 2) scBag.nd rfl (.inl rfl) pe_int)
      (Evl.pss_cut (ps_if (pt_cmpR op_lt (pv 1) (pe_callB call_len_seq (by rfl) N.len PySem.boot_len (pa_cons (pv 0) pa_nil)) (nomark _)) (pss_one (ps_set (i := 2) scBag.nd rfl (.inl rfl) (pe_callB call_abs (by rfl) N.abs boot_abs (pa_cons (pe_ix ix_list (pv 0) (pv 1) (fun _ _ => rfl)) pa_nil)))) pss_nil)
      (pss_cons (ps_if (pt_cmpR op_lt (pv 2) (pe_op op_pow pe_int pe_int) (nomark _)) (pss_one (ps_ret (pe_lst (pa_cons pe_int (pa_cons (pe_op op_add pe_int (pe_op op_mod (pe_op op_add (pe_op op_mul (pv 2) pe_int) (pe_op op_mul pe_int (pv 1))) pe_int)) pa_nil))))) pss_nil)
      (pss_one (ps_ret (pe_lst (pa_cons (pv 2) (pa_cons (pe_op op_add pe_int (pe_op op_mod (pe_op op_add (pv 2) (pv 1)) pe_int)) pa_nil))))))), ?_⟩
    refine s_seq (s_asg ev_c fun H1 x1 => ⟨fun σ' H' => ∃ c : Int, σ' = [some (.ref a), some (.int (n : Int)), some (.int c)] ∧ Ex H H' ∧ 0 ≤ c, ?_, fun σ' H' m => ?_⟩)
    · refine s_if (et_test (ev_op (ev_var rfl) (ev_len (ev_var rfl) (ex_l x1 hS)) rv_I0)) (fun e H2 x2 => ?_) (fun e H2 x2 => ⟨0, rfl, x1.trans x2, by decide⟩)
      have e1 := of_decide_eq_true e
      rw [List.length_map] at e1
      have hlt : n < ns.length := by omega
      have hx : (ns.map V.int)[n]? = some (.int ns[n]) := by
        rw [List.getElem?_map, List.getElem?_eq_getElem hlt]
        rfl
      refine s_asg (ev_abs (ev_lx (ev_var rfl) (ev_var rfl) (ex_l (x1.trans x2) hS) hx)) fun H3 x3 => ⟨_, rfl, (x1.trans x2).trans x3, ?_⟩
      split <;> omega
    · obtain ⟨c, rfl, xx, hc⟩ := m
      refine s_seq (s_if (et_test (ev_op (ev_var rfl) (ev_op ev_c ev_c (rv_pow ⟨by decide, by decide, by decide⟩)) rv_I0)) (fun e H2 x2 => ?_) (fun e H2 x2 => s_next ?_))
      · refine s_retL (el_lst (ea_cons ev_c (ea_cons (ev_op ev_c (ev_op (ev_op (ev_op (ev_var rfl) ev_c (rv_mul (.inr ⟨by decide, by decide⟩))) (ev_op ev_c (ev_var rfl) (rv_mul (.inl ⟨by decide, by decide⟩))) rv_add) ev_c (rv_mod (by decide))) rv_add) ea_nil)) (by simp)) fun p H3 hp x3 hb => ?_
        have y1 := Int.emod_nonneg (c * 7919 + 104729 * (n : Int)) (b := 2147483646) (by decide)
        have y2 := Int.emod_lt_of_pos (c * 7919 + 104729 * (n : Int)) (b := 2147483646) (by decide)
        exact q p H3 (fresh_back (xx.trans x2) hp) ((xx.trans x2).trans x3) ⟨_, _, hb, by decide, by omega, by omega⟩
      · refine s_retL (el_lst (ea_cons (ev_var rfl) (ea_cons (ev_op ev_c (ev_op (ev_op (ev_var rfl) (ev_var rfl) rv_add) ev_c (rv_mod (by decide))) rv_add) ea_nil)) (by simp)) fun p H3 hp x3 hb => ?_
        have y1 := Int.emod_nonneg (c + (n : Int)) (b := 2147483646) (by decide)
        have y2 := Int.emod_lt_of_pos (c + (n : Int)) (b := 2147483646) (by decide)
        exact q p H3 (fresh_back (xx.trans x2) hp) ((xx.trans x2).trans x3) ⟨_, _, hb, hc, by omega, by omega⟩
end
def once (ks : List Int) : List Int := ((List.range 1000).map Int.ofNat).filter (fun k => decide (k ∈ ks))
theorem once_pw (ks : List Int) : (once ks).Pairwise (· < ·) := by
  unfold once
  refine List.Pairwise.filter _ (List.pairwise_map.mpr ?_)
  exact List.pairwise_lt_range.imp fun h => Int.ofNat_lt.mpr h
theorem once_mem (ks : List Int) (hb : ∀ k ∈ ks, 0 ≤ k ∧ k < 1000) (k : Int) : k ∈ once ks ↔ k ∈ ks := by
  unfold once
  rw [List.mem_filter, decide_eq_true_eq]
  refine ⟨fun h => h.2, fun h => ⟨?_, h⟩⟩
  have := hb k h
  exact List.mem_map.mpr ⟨k.toNat, List.mem_range.mpr (by omega), by
    show ((k.toNat : Nat) : Int) = k
    omega⟩
theorem once_len (ks : List Int) : (once ks).length ≤ 1000 := by
  unfold once
  refine Nat.le_trans (List.length_filter_le _ _) ?_
  rw [List.length_map, List.length_range]
  exact Nat.le_refl _
theorem once_few (ks : List Int) (hb : ∀ k ∈ ks, 0 ≤ k ∧ k < 1000) : (once ks).length ≤ ks.length := len_sub ((once_pw ks).imp fun {a b} z e => by omega) fun x m => (once_mem ks hb x).mp m
theorem cut_nat (us : List V) (lo hi : Nat) (h1 : lo ≤ hi) : cutV us (some (lo : Int)) (some (hi : Int)) = (us.drop lo).take (hi - lo) := by
  unfold cutV
  rw [HT.sIx_nat, HT.sIx_nat]
  refine List.ext_getElem? fun i => ?_
  rw [List.getElem?_take, List.getElem?_take, List.getElem?_drop, List.getElem?_drop]
  by_cases c : lo ≤ us.length
  · rw [Nat.min_eq_left c]
    by_cases d : i < hi - lo
    · rw [if_pos d]
      by_cases e : i < min hi us.length - lo
      · rw [if_pos e]
      · rw [if_neg e, List.getElem?_eq_none (by omega)]
    · rw [if_neg d, if_neg (by omega)]
  · rw [if_neg (by omega), List.getElem?_eq_none (l := us) (i := lo + i) (by omega)]
    split <;> rfl
theorem dps_cutN {K : PySem.W.Frag} {H : Hp} {us : List V} {ds : List PyData} (h : DpAll K H us ds) (lo n : Nat) : DpAll K H ((us.drop lo).take n) ((ds.drop lo).take n) := dps_take n (dps_drop lo h)
theorem en_kind {ks : List Int} {d : PyData} (h : goodEn ks d = true) : (∃ cs, d = .tuple [.str "group", .tuple cs] ∧ ∀ c ∈ cs, goodCh ks c = true) ∨ ∃ (s : Str) (i j : Int), d = .tuple [.str s, .int i, .int j] ∧ s ≠ "group" := by
  unfold goodEn at h
  split at h
  · rename_i s cs
    rw [Bool.and_eq_true, List.all_eq_true] at h
    rw [of_decide_eq_true h.1]
    exact .inl ⟨cs, rfl, h.2⟩
  · rename_i s i j
    refine .inr ⟨s, i, j, rfl, fun z => ?_⟩
    rw [decide_eq_true z] at h
    cases h
  · cases h
theorem ch_kindW {ks : List Int} {d : PyData} (h : goodCh ks d = true) : (∃ k, d = .tuple [.str "drop", .int k] ∧ k ∈ ks) ∨ ∃ (k z : Int), d = .tuple [.str "put", .int k, .int z] ∧ k ∈ ks ∧ (0 ≤ z ∧ z < 1000) := by
  unfold goodCh at h
  split at h
  · rename_i s k
    rw [Bool.and_eq_true] at h
    rw [of_decide_eq_true h.1]
    exact .inl ⟨k, rfl, of_decide_eq_true h.2⟩
  · rename_i s k z
    rw [Bool.and_eq_true, Bool.and_eq_true] at h
    rw [of_decide_eq_true h.1]
    exact .inr ⟨k, z, rfl, of_decide_eq_true h.2.1, of_decide_eq_true h.2.2⟩
  · cases h
theorem ch_kind {ks : List Int} {d : PyData} (h : goodCh ks d = true) : (∃ k, d = .tuple [.str "drop", .int k] ∧ k ∈ ks) ∨ ∃ (k z : Int), d = .tuple [.str "put", .int k, .int z] ∧ k ∈ ks := by
  rcases ch_kindW h with ⟨k, e, m⟩ | ⟨k, z, e, m, _⟩
  · exact .inl ⟨k, e, m⟩
  · exact .inr ⟨k, z, e, m⟩
def spKeysR : Sp := fun vs H Q _ => ∃ b : Addr, vs = [.ref b] ∧ Bag H b ∧ ∀ l (ks : List Int) H', Tc.Fr b H H' → KeysAt b H' l ks → ks.length < 64 → ks.Pairwise (· < ·) → Q (.ref l) H'
def spTabR (K : PySem.W.Frag) : Sp := fun vs H Q _ => ∃ (b l : Addr) (ks : List Int), vs = [.ref b, .ref l] ∧ Bag H b ∧ KeysAt b H l ks ∧ ∀ p rs H', Tc.Fr b H H' → TP K H' p rs → (∀ r ∈ rs, r.1 ∈ ks) → (∀ r ∈ rs, 0 ≤ r.2 ∧ r.2 < 1000) → rs.length ≤ ks.length → (ks.Pairwise (· < ·) → rs.Pairwise fun a b => a.1 < b.1) → Q (.ref p) H'
def spChsL (K : PySem.W.Frag) : Sp := fun vs H Q _ => ∃ (b l : Addr) (ks : List Int) (m : Int) (S : Addr → Prop), vs = [.ref b, .ref l, .int m] ∧ Bag H b ∧ Sok S b H ∧ KeysAt b H l ks ∧ 1 ≤ m ∧ m ≤ 6 ∧
  ∀ v ds H', Tc.Fr b H H' → Dp K (cut S H') v (.tuple ds) → (∀ d ∈ ds, goodCh ks d = true) → ds.length ≤ 6 → Q v H'
section
variable {P : Program} {w : World} {K : PySem.W.Frag} {mg : Str → Option Value} {base : Heap}
theorem dpt2 {H : Hp} {v : V} {d0 d1 : PyData} (h : Dp K H v (.tuple [d0, d1])) : ∃ a x0 x1, v = .ref a ∧ SqT K H a [x0, x1] ∧ Dp K H x0 d0 ∧ Dp K H x1 d1 := by
  cases h with
  | tup hs r =>
    cases r with
    | cons h0 r =>
      cases r with
      | cons h1 r =>
        cases r
        exact ⟨_, _, _, rfl, hs, h0, h1⟩
theorem dpt3 {H : Hp} {v : V} {d0 d1 d2 : PyData} (h : Dp K H v (.tuple [d0, d1, d2])) : ∃ a x0 x1 x2, v = .ref a ∧ SqT K H a [x0, x1, x2] ∧ Dp K H x0 d0 ∧ Dp K H x1 d1 ∧ Dp K H x2 d2 := by
  cases h with
  | tup hs r =>
    cases r with
    | cons h0 r =>
      cases r with
      | cons h1 r =>
        cases r with
        | cons h2 r =>
          cases r
          exact ⟨_, _, _, _, rfl, hs, h0, h1, h2⟩
theorem g_name {i : Nat} {v : V} {σ : L2.St} {H : Hp} {Q : L2.St → Hp → Prop} (h : Q (σ.set i (some v)) H) : gName i v σ H Q := h
theorem t_asg {te : TE} {g : TG} {D : Ends} {σ : L2.St} {H : Hp} (h : te σ H fun x H1 => g x σ H1 D.nx) : tAsg te g D σ H := h
abbrev sKeys : Stmt := topS 53
theorem scKeys : FnScope ["bag", "step", "first", "at"] ["bag"] (defScope sKeys) := ⟨rfl, rfl, rfl, by decide +kernel, rfl, by decide +kernel, by decide +kernel⟩
theorem ok_keys {f : Addr} {fd : FuncData} {k : Nat} (F : Fun K "_law_keys" "_law_keys" sKeys f fd) (N : Names mg) (dT : Own P w K mg base "_law_take" ["bag", "many"] k spTake) : FnOk P w K mg base CX0 (k + 1) f fd ["bag"] spKeysR := by
  refine F.ok scKeys (fun vs H Q E h => ?_) (fun cdv A outer s H vs Q E hr h => ?_)
  · obtain ⟨b, rfl, _⟩ := h
    rfl
  · obtain ⟨b, rfl, hB, q⟩ := h
    refine ⟨_, pss_cons (ps_set (i := 1) scKeys.nd rfl (.inr rfl) (pe_ix ix_list (pe_lst (pa_cons pe_int (pa_cons pe_int (pa_cons pe_int (pa_cons pe_int pa_nil))))) (pe_own dT hr (Nat.le_refl _) (by rfl) (pa_cons (pv 0) (pa_cons pe_int pa_nil))) (fun _ _ => rfl)))
      (pss_cons (ps_set (i := 2) scKeys.nd rfl (.inr rfl) (pe_own dT hr (Nat.le_refl _) (by rfl) (pa_cons (pv 0) (pa_cons (pe_op op_sub pe_int (pe_op op_mul pe_int (pv 1))) pa_nil))))
      (pss_one (ps_ret (pe_callB (cr_sortedSetA rfl) (by rfl) N.sorted boot_sorted (pa_cons (pe_callTy (cr_setL rfl) (by rfl) N.set boot_set (pa_cons (pe_op op_cat (pe_lc (own := [("at", 3)]) (g := gName 3) (tt := tYes) (te := tOp (rI0 fun i j => .int (i + j)) (tVar 2) (tOp (rI CMul fun i j => .int (i * j)) (tVar 1) (tVar 3))) rfl scKeys.nd
          (pi_range1 rfl N.range (pa_cons pe_int pa_nil)) (blkOk_by (N := ["bag", "step", "first", "at"]) (sc := defScope sKeys) (by decide +kernel)) (fun _ _ _ _ _ => pg_name (i := 3) scKeys.nd rfl (Or.inl rfl)) (fun _ _ _ _ _ => pts_nil) (fun _ _ _ _ _ => pe_op op_add (pv 2) (pe_op op_mul (pv 1) (pv 3))))
        (pe_lst (pa_cons pe_int (pa_cons pe_int pa_nil)))) pa_nil)) pa_nil))))), ?_⟩
    refine s_seq (item_new (b := b) (xs := [.int 1, .int 2, .int 7, .int 90]) (el_lst (ea_cons ev_c (ea_cons ev_c (ea_cons ev_c (ea_cons ev_c ea_nil)))) (by simp)) hB (fun H1 f1 Q q => take_of (m := 4) f1.bag (ea_cons (ev_var rfl) (ea_cons ev_c ea_nil)) (by decide) (by decide) q) fun v H1 f1 hv => ?_)
    obtain ⟨st, rfl, hst⟩ : ∃ st : Int, v = .int st ∧ (st = 1 ∨ st = 2 ∨ st = 7 ∨ st = 90) := by
      simp only [List.mem_cons, List.not_mem_nil, or_false] at hv
      rcases hv with h | h | h | h <;> exact ⟨_, h, by simp⟩
    refine s_seq (take_of (b := b) (m := 1000 - 9 * st) f1.bag (ea_cons (ev_var rfl) (ea_cons (ev_op ev_c (ev_op ev_c (ev_var rfl) (rv_mul (.inl ⟨by decide, by decide⟩))) rv_sub) ea_nil)) (by omega) (by omega) fun r H2 f2 h0 h1 => ?_)
    have hks : ((List.range 10).map fun (i : Nat) => V.int (r + st * (i : Int))) ++ [V.int 0, V.int 999] = (((List.range 10).map fun (i : Nat) => r + st * (i : Int)) ++ [0, 999]).map V.int := by
      rw [List.map_append, List.map_map]
      rfl
    have hb : ∀ k ∈ ((List.range 10).map fun (i : Nat) => r + st * (i : Int)) ++ [0, 999], 0 ≤ k ∧ k < 1000 := fun k m => by
      rcases List.mem_append.mp m with m | m
      · obtain ⟨i, hi, rfl⟩ := List.mem_map.mp m
        have := List.mem_range.mp hi
        rcases hst with h | h | h | h <;> subst h <;> omega
      · simp only [List.mem_cons, List.not_mem_nil, or_false] at m
        omega
    refine s_retL (el_sortset (ns := ((List.range 10).map fun (i : Nat) => r + st * (i : Int)) ++ [0, 999]) (ms := once (((List.range 10).map fun (i : Nat) => r + st * (i : Int)) ++ [0, 999])) (el_is (el_cat (xs := (List.range 10).map fun (i : Nat) => V.int (r + st * (i : Int))) (el_is (el_lcR1 (n := 10) (fun _ => true) (fun i => V.int (r + st * (i : Int))) (ea_cons ev_c ea_nil) (by decide) (fun x => rfl) (fun i H1 e hi => et_yes)
      (fun i H1 e hi _ => ev_op (ev_var rfl) (ev_op (ev_var rfl) (ev_var rfl) (rv_mul (.inl ?_))) rv_add)) (given_all _ _)) (el_lst (ea_cons ev_c (ea_cons ev_c ea_nil)) (by simp)) (by simp)) hks) (by simp) fun l h3 h4 => rising_one l _ h3 (once_pw _) fun k => (h4 k).trans (once_mem _ hb k).symm) fun p H3 hp x3 h3 => ?_
    · rcases hst with h | h | h | h <;> subst h <;> decide
    · exact q p _ H3 ((f1.trans f2).trans (Fr.ex f2.bag x3)) ⟨f2.bag.ne hp, h3, fun k m => hb k ((once_mem _ hb k).mp m), once_len _, List.length_pos_of_mem ((once_mem _ hb 0).mpr (by simp))⟩ (Nat.lt_of_le_of_lt (once_few _ hb) (by simp)) (once_pw _)
abbrev sOf : Stmt := topS 50
theorem scOf : FnScope ["bag", "some"] ["bag", "some"] (defScope sOf) := ⟨rfl, rfl, rfl, by decide +kernel, rfl, by decide +kernel, by decide +kernel⟩
theorem ok_of {f : Addr} {fd : FuncData} {kT kO kC k : Nat} (F : Fun K "_law_of" "_law_of" sOf f fd) (N : Names mg) (dT : Own P w K mg base "_law_take" ["bag", "many"] kT spTake) (hT : kT ≤ k) : FnOk P w K mg base CX0 (k + 1) f fd ["bag", "some"] spOf := by
  refine F.ok scOf (fun vs H Q E h => ?_) (fun cdv A outer s H vs Q E hr h => ?_)
  · obtain ⟨b, l, ks, rfl, _⟩ := h
    rfl
  · obtain ⟨b, l, ks, rfl, hB, hk, q⟩ := h
    refine ⟨_, (pss_one (ps_ret (pe_ix ix_list (pv 1) (pe_own dT hr hT (by rfl) (pa_cons (pv 0) (pa_cons (pe_callB call_len_seq (by rfl) N.len PySem.boot_len (pa_cons (pv 1) pa_nil)) pa_nil))) (fun _ _ => rfl)))), ?_⟩
    refine ⟨.ref l, rfl, take_of (b := b) (m := (ks.length : Int)) hB (ea_cons (ev_var rfl) (ea_cons (ev_is (ev_len (ev_var rfl) (sq_of hk.h)) (by rw [List.length_map])) ea_nil)) (by have := hk.some; omega) (by have := hk.few; omega) fun r H1 f1 r0 r1 => ?_⟩
    obtain ⟨n, rfl⟩ : ∃ n : Nat, r = (n : Int) := ⟨r.toNat, by omega⟩
    have hn : n < ks.length := by omega
    exact ⟨l, ks.map V.int, n, .int ks[n], rfl, rfl, sq_of (hk.fr f1).h, atI_nat (by rw [List.getElem?_map, List.getElem?_eq_getElem hn]; rfl), q _ _ (List.getElem_mem hn) f1⟩
abbrev sTab : Stmt := topS 54
theorem scTab : FnScope ["bag", "keys", "key"] ["bag", "keys"] (defScope sTab) := ⟨rfl, rfl, rfl, by decide +kernel, rfl, by decide +kernel, by decide +kernel⟩
theorem ok_tab {f : Addr} {fd : FuncData} {k : Nat} (F : Fun K "_law_table" "_law_table" sTab f fd) (N : Names mg) (dT : Own P w K mg base "_law_take" ["bag", "many"] k spTake) : FnOk P w K mg base CX0 (k + 1) f fd ["bag", "keys"] (spTabR K) := by
  refine F.ok scTab (fun vs H Q E h => ?_) (fun cdv A outer s H vs Q E hr h => ?_)
  · obtain ⟨b, l, ks, rfl, _⟩ := h
    rfl
  · obtain ⟨b, l, ks, rfl, hB, hka, q⟩ := h
    have hl := hka.h
    have hlb := hka.ne
    have hk := hka.bd
    have hn := hka.few
    refine ⟨_, pss_one (ps_ret (pe_callTy cr_tupP (by rfl) N.tuple boot_tuple (pa_cons (pe_lc (own := [("key", 2)]) (g := gName 2) (tt := tTest (tOp (rI0 fun i j => .bl (decide (j < i))) (tCall spTake [] E0 (tCons (tVar 0) (tCons (tC (.int 3)) tNil))) (tC (.int 0))))
        (te := tTup (tCons (tVar 2) (tCons (tCall spTake [] E0 (tCons (tVar 0) (tCons (tC (.int 1000)) tNil))) tNil))) rfl scTab.nd (pi_list (pv 1)) (blkOk_by (N := ["bag", "keys", "key"]) (sc := defScope sTab) (by decide +kernel)) (fun _ _ _ _ _ => pg_name (i := 2) scTab.nd rfl (Or.inl rfl))
        (fun _ _ _ _ _ => pts_one (pt_cmpR op_gt (pe_own dT hr (Nat.le_refl _) (by rfl) (pa_cons (pv 0) (pa_cons pe_int pa_nil))) pe_int (nomark _)))
        (fun _ _ _ _ _ => pe_tup (pa_cons (pv 2) (pa_cons (pe_own dT hr (Nat.le_refl _) (by rfl) (pa_cons (pv 0) (pa_cons pe_int pa_nil))) pa_nil)))) pa_nil))), ?_⟩
    refine ⟨.ref l, rfl, l, rfl, ⟨_, sq_of hl⟩, fun D hD => ?_⟩
    refine lc_list (K := K) (xs := ks.map V.int) (ColW b K (rowsUp ks) H D) (ColW.start hB hD ⟨[], rfl, fun r m => (by cases m), fun _ => .nil⟩) (fun i H' _ c => sq_of (c.fr.at hl hlb)) (fun i x H' hx c => ⟨rfl, ?_⟩) (fun H' c => ?_)
    · rw [List.getElem?_map] at hx
      obtain ⟨kk, hkk, rfl⟩ := Option.map_eq_some_iff.mp hx
      have hi : i < ks.length := (List.getElem?_eq_some_iff.mp hkk).1
      refine take_of (b := b) (m := 3) c.fr.bag (ea_cons (ev_var rfl) (ea_cons ev_c ea_nil)) (by decide) (by decide) fun r H1 f1 r0 r1 => ⟨r, 0, rfl, rfl, _, rfl, ite2 (fun e => ?_) (fun e => c.skip f1 fun _ h => h.skip)⟩
      refine ⟨.int kk, rfl, take_of (b := b) (m := 1000) f1.bag (ea_cons (ev_var rfl) (ea_cons ev_c ea_nil)) (by decide) (by decide) fun r2 H2 f2 r3 r4 => ⟨sz_of (by simp), fun p hp => ?_⟩⟩
      exact c.push ((f1.trans f2).trans (Fr.new f2.bag hp)) (dp_pair f2.bag (c.skip (f1.trans f2) fun _ h => h.skip).at hp) (fun _ h => h.push hkk ⟨r3, r4⟩) (by omega)
    · rw [List.length_map] at c
      obtain ⟨vs, ds, h1, h2, h3, rs, rfl, hr', hu⟩ := c.ex
      have rl : rs.length ≤ ks.length := by
        have := dps_len h2
        rw [List.length_map] at this
        omega
      exact ⟨D, vs, rfl, sq_of h1, fun t o ht od => q t rs _ (c.fr.trans (Fr.new c.fr.bag ht)) ⟨vs, ⟨o, upd_same, od⟩, dps_same (Ex.new ht) _ _ (dps_same (hid_same b _) _ _ (dps_same (hid_same D _) _ _ h2))⟩ (fun r m => List.mem_of_mem_take (hr' r m).1) (fun r m => (hr' r m).2) rl hu⟩
abbrev sLCh : Stmt := topS 55
theorem scLCh : FnScope ["bag", "keys", "most", "found", "turn", "key"] ["bag", "keys", "most"] (defScope sLCh) := ⟨rfl, rfl, rfl, by decide +kernel, rfl, by decide +kernel, by decide +kernel⟩
theorem ok_chs {f : Addr} {fd : FuncData} {kT kO kC k : Nat} (F : Fun K "_law_changes" "_law_changes" sLCh f fd) (N : Names mg) (dT : Own P w K mg base "_law_take" ["bag", "many"] kT spTake) (hT : kT ≤ k) (dOf : Own P w K mg base "_law_of" ["bag", "some"] kO spOf) (hO : kO ≤ k) : FnOk P w K mg base CX0 (k + 1) f fd ["bag", "keys", "most"] (spChsL K) := by
  refine F.ok scLCh (fun vs H Q E h => ?_) (fun cdv A outer s H vs Q E hr h => ?_)
  · obtain ⟨b, l, ks, m, S, rfl, _⟩ := h
    rfl
  · obtain ⟨b, l, ks, m, S, rfl, hB, hS, hk, m1, m6, q⟩ := h
    refine ⟨_, (pss_cons (ps_set (i := 3) scLCh.nd rfl (.inl rfl) (pe_lst pa_nil))
      (pss_cons (ps_for PassesOwn.never rfl (pi_range1 rfl N.range (pa_cons (pe_op op_add pe_int (pe_own dT hr hT (by rfl) (pa_cons (pv 0) (pa_cons (pv 2) pa_nil)))) pa_nil)) (pg_name (i := 4) scLCh.nd rfl (.inl rfl)) (pss_cons (ps_set (i := 5) scLCh.nd rfl (.inl rfl) (pe_own dOf hr hO (by rfl) (pa_cons (pv 0) (pa_cons (pv 1) pa_nil))))
      (pss_one (ps_if (pt_cmpR op_eq (pe_own dT hr hT (by rfl) (pa_cons (pv 0) (pa_cons pe_int pa_nil))) pe_int (nomark _)) (pss_one (ps_expr (pe_bm PySem.F.plainAttrs_list PySem.F.slot_list_append PySem.F.type_list_append mt_append (pv 3) (pa_cons (pe_tup (pa_cons pe_str (pa_cons (pv 5) pa_nil))) pa_nil)))) (pss_one (ps_expr (pe_bm PySem.F.plainAttrs_list PySem.F.slot_list_append PySem.F.type_list_append mt_append (pv 3) (pa_cons (pe_tup (pa_cons pe_str (pa_cons (pv 5) (pa_cons (pe_ix ix_list (pe_lst (pa_cons (pe_own dT hr hT (by rfl) (pa_cons (pv 0) (pa_cons pe_int pa_nil))) (pa_cons (pe_own dT hr hT (by rfl) (pa_cons (pv 0) (pa_cons pe_int pa_nil))) pa_nil))) (pe_own dT hr hT (by rfl) (pa_cons (pv 0) (pa_cons pe_int pa_nil))) (fun _ _ => rfl)) pa_nil)))) pa_nil))))))))
      (pss_one (ps_ret (pe_callTy call_tuple_of (by rfl) N.tuple boot_tuple (pa_cons (pv 3) pa_nil)))))), ?_⟩
    refine s_seq ⟨Nat.zero_le _, fun D hD => g_name ?_⟩
    dsimp only
    have c0 : ColE S b K (goodCh ks) H D 0 (upd H D (.lst [])) := ColE.start hS hB hD
    refine s_seq (take_of (b := b) (m := m) c0.fr.bag (ea_cons (ev_var rfl) (ea_cons (ev_var rfl) ea_nil)) (by omega) (by omega) fun r H1 f1 r0 r1 => ⟨1, r, rfl, rfl, 1 + r, rfl, by omega, by omega, ?_⟩)
    refine for_range (lo := 0) (n := (1 + r).toNat) (fun i σ' H' => ∃ y4 y5, σ' = [some (.ref b), some (.ref l), some (.int m), some (.ref D), y4, y5] ∧ ColE S b K (goodCh ks) H D i H') ⟨none, none, rfl, c0.skip f1⟩ (fun i σ' H' hi p => ?_) (fun σ' H' p => ?_)
    · obtain ⟨y4, y5, rfl, c⟩ := p
      have i5 : i < 10000 := by omega
      refine g_name (s_seq ⟨.ref b, rfl, .ref l, rfl, b, l, ks, rfl, c.fr.bag, hk.fr c.fr, fun kk H2 mk f2 => g_name ?_⟩)
      dsimp only
      have hb := hk.bd kk mk
      refine take_of (b := b) (m := 3) f2.bag (ea_cons (ev_var rfl) (ea_cons ev_c ea_nil)) (by decide) (by decide) fun r2 H3 f3 r3 r4 => ⟨rfl, _, rfl, ite2 (fun e => ?_) (fun e => ?_)⟩
      · obtain ⟨vs, _, hDv, _⟩ := (c.skip (f2.trans f3)).ex
        refine ⟨.ref D, rfl, .inl ⟨rfl, vs, sq_of hDv⟩, .int kk, rfl, sz_of (by simp), fun p hp => ?_⟩
        obtain ⟨acc, h1, h2, h3⟩ := c.push ((f2.trans f3).trans (Fr.new f3.bag hp)) (dp_leaves (c.skip (f2.trans f3)).sokD hp fun H2 => .cons (.str "drop") (.cons (.int kk) .nil)) (gq_drop mk) i5
        exact ⟨D, acc, .ref p, rfl, rfl, h1, h2, _, _, rfl, h3⟩
      · obtain ⟨vs, _, hDv, _⟩ := (c.skip (f2.trans f3)).ex
        refine ⟨.ref D, rfl, .inl ⟨rfl, vs, sq_of hDv⟩, .int kk, rfl, take_of (b := b) (m := 1000) f3.bag (ea_cons (ev_var rfl) (ea_cons ev_c ea_nil)) (by decide) (by decide) fun w1 H4 f4 w2 w3 => take_of (b := b) (m := 3) f4.bag (ea_cons (ev_var rfl) (ea_cons ev_c ea_nil)) (by decide) (by decide) fun w4 H5 f5 w5 w6 => ⟨sz_of (by simp), fun L hL => ?_⟩⟩
        have fL := Fr.new (o := .lst [.int w1, .int w4]) f5.bag hL
        refine take_of (b := b) (m := 2) fL.bag (ea_cons (ev_var rfl) (ea_cons ev_c ea_nil)) (by decide) (by decide) fun w7 H6 f6 w8 w9 => ?_
        have hL6 : H6 L = some (.lst [.int w1, .int w4]) := f6.at upd_same (f5.bag.ne hL)
        have fA := (((f2.trans f3).trans (f4.trans f5)).trans fL).trans f6
        obtain ⟨n, rfl⟩ : ∃ n : Nat, w7 = (n : Int) := ⟨w7.toNat, by omega⟩
        obtain ⟨wv, hwv, hwb⟩ : ∃ wv : Int, [V.int w1, .int w4][n]? = some (.int wv) ∧ (0 ≤ wv ∧ wv < 1000) := by
          have : n = 0 ∨ n = 1 := by omega
          rcases this with rfl | rfl
          · exact ⟨w1, rfl, w2, w3⟩
          · exact ⟨w4, rfl, w5, by omega⟩
        refine ⟨L, _, n, .int wv, rfl, rfl, sq_of hL6, atI_nat hwv, sz_of (by simp), fun p hp => ?_⟩
        obtain ⟨acc, h1, h2, h3⟩ := c.push (fA.trans (Fr.new f6.bag hp)) (dp_leaves (c.skip fA).sokD hp fun H2 => .cons (.str "put") (.cons (.int kk) (.cons (.int wv) .nil))) (gq_put mk hwb) i5
        exact ⟨D, acc, .ref p, rfl, rfl, h1, h2, _, _, rfl, h3⟩
    · obtain ⟨y4, y5, rfl, c⟩ := p
      obtain ⟨vs, ds, h1, h2, h3, h4⟩ := c.ex
      dsimp only
      have hl := dps_len h2
      exact ⟨.ref D, rfl, D, vs, rfl, .inl ⟨sq_of h1, fun p hp => q (.ref p) ds _ (c.fr.trans (Fr.new c.fr.bag hp)) (cdt_new (hS.fr c.fr) c.fr.bag hp (dps_same also_same _ _ h2)) h4 (by omega)⟩⟩
end
def spStr (K : PySem.W.Frag) : Sp := fun vs H Q _ => ∃ (b l : Addr) (ks : List Int), vs = [.ref b, .ref l] ∧ Bag H b ∧ KeysAt b H l ks ∧ ∀ (x y : Int) (p : Addr) (H' : Hp), Tc.Fr b H H' → H p = none → p ≠ b → H' p = some (.tup [.int x, .int y]) → 0 ≤ x → x < 1000 → x < y → y ≤ 1000 → Q (.ref p) H'
section
variable {P : Program} {w : World} {K : PySem.W.Frag} {mg : Str → Option Value} {base : Heap}
abbrev sStr : Stmt := topS 61
theorem scStr : FnScope ["bag", "keys", "first", "wide"] ["bag", "keys"] (defScope sStr) := ⟨rfl, rfl, rfl, by decide +kernel, rfl, by decide +kernel, by decide +kernel⟩
theorem ok_str {f : Addr} {fd : FuncData} {kT kO k : Nat} (F : Fun K "_law_stretch" "_law_stretch" sStr f fd) (N : Names mg) (dT : Own P w K mg base "_law_take" ["bag", "many"] kT spTake) (hT : kT ≤ k) (dOf : Own P w K mg base "_law_of" ["bag", "some"] kO spOf) (hO : kO ≤ k) : FnOk P w K mg base CX0 (k + 1) f fd ["bag", "keys"] (spStr K) := by
  refine F.ok scStr (fun vs H Q E h => ?_) (fun cdv A outer s H vs Q E hr h => ?_)
  · obtain ⟨b, l, ks, rfl, _⟩ := h
    rfl
  · obtain ⟨b, l, ks, rfl, hB, hk, q⟩ := h
    refine ⟨_, (pss_cons (ps_set (i := 2) scStr.nd rfl (.inl rfl) (pe_ix ix_list (pe_lst (pa_cons (pe_own dOf hr hO (by rfl) (pa_cons (pv 0) (pa_cons (pv 1) pa_nil))) (pa_cons pe_int (pa_cons (pe_own dT hr hT (by rfl) (pa_cons (pv 0) (pa_cons pe_int pa_nil))) pa_nil)))) (pe_own dT hr hT (by rfl) (pa_cons (pv 0) (pa_cons pe_int pa_nil))) (fun _ _ => rfl)))
      (pss_cons (ps_set (i := 3) scStr.nd rfl (.inl rfl) (pe_ix ix_list (pe_lst (pa_cons pe_int (pa_cons (pe_op op_add pe_int (pe_own dT hr hT (by rfl) (pa_cons (pv 0) (pa_cons pe_int pa_nil)))) (pa_cons pe_int pa_nil)))) (pe_own dT hr hT (by rfl) (pa_cons (pv 0) (pa_cons pe_int pa_nil))) (fun _ _ => rfl)))
      (pss_one (ps_ret (pe_tup (pa_cons (pv 2) (pa_cons (pe_callB (call_min2 rfl) (by rfl) N.min boot_min (pa_cons pe_int (pa_cons (pe_op op_add (pv 2) (pv 3)) pa_nil))) pa_nil))))))), ?_⟩
    refine s_seq ⟨.ref b, rfl, .ref l, rfl, b, l, ks, rfl, hB, hk, fun kk H1 mk f1 => take_of (b := b) (m := 1000) f1.bag (ea_cons (ev_var rfl) (ea_cons ev_c ea_nil)) (by decide) (by decide) fun r1 H2 f2 a1 a2 => ⟨sz_of (by simp), fun L hL => ?_⟩⟩
    have fL := Fr.new (o := .lst [.int kk, .int 0, .int r1]) f2.bag hL
    refine take_of (b := b) (m := 3) fL.bag (ea_cons (ev_var rfl) (ea_cons ev_c ea_nil)) (by decide) (by decide) fun r2 H3 f3 a3 a4 => ?_
    have hL3 : H3 L = some (.lst [.int kk, .int 0, .int r1]) := f3.at upd_same (f2.bag.ne hL)
    have hkb := hk.bd kk mk
    obtain ⟨n, rfl⟩ : ∃ n : Nat, r2 = (n : Int) := ⟨r2.toNat, by omega⟩
    obtain ⟨x, hx, hxb⟩ : ∃ x : Int, [V.int kk, .int 0, .int r1][n]? = some (.int x) ∧ (0 ≤ x ∧ x < 1000) := by
      have : n = 0 ∨ n = 1 ∨ n = 2 := by omega
      rcases this with rfl | rfl | rfl
      · exact ⟨kk, rfl, hkb⟩
      · exact ⟨0, rfl, by decide⟩
      · exact ⟨r1, rfl, a1, a2⟩
    refine ⟨L, _, n, .int x, rfl, rfl, sq_of hL3, atI_nat hx, g_name ?_⟩
    dsimp only
    have fA := ((f1.trans f2).trans fL).trans f3
    refine s_seq (take_of (b := b) (m := 30) f3.bag (ea_cons (ev_var rfl) (ea_cons ev_c ea_nil)) (by decide) (by decide) fun r3 H4 f4 a5 a6 => ⟨1, r3, rfl, rfl, sz_of (by simp), fun L2 hL2 => ?_⟩)
    have fL2 := Fr.new (o := .lst [.int 1, .int (1 + r3), .int 1000]) f4.bag hL2
    refine take_of (b := b) (m := 3) fL2.bag (ea_cons (ev_var rfl) (ea_cons ev_c ea_nil)) (by decide) (by decide) fun r4 H5 f5 a7 a8 => ?_
    have hL5 : H5 L2 = some (.lst [.int 1, .int (1 + r3), .int 1000]) := f5.at upd_same (f4.bag.ne hL2)
    obtain ⟨n2, rfl⟩ : ∃ n : Nat, r4 = (n : Int) := ⟨r4.toNat, by omega⟩
    obtain ⟨y, hy, hyb⟩ : ∃ y : Int, [V.int 1, .int (1 + r3), .int 1000][n2]? = some (.int y) ∧ (1 ≤ y ∧ y ≤ 1000) := by
      have : n2 = 0 ∨ n2 = 1 ∨ n2 = 2 := by omega
      rcases this with rfl | rfl | rfl
      · exact ⟨1, rfl, by decide⟩
      · exact ⟨1 + r3, rfl, by omega, by omega⟩
      · exact ⟨1000, rfl, by decide⟩
    refine ⟨L2, _, n2, .int y, rfl, rfl, sq_of hL5, atI_nat hy, g_name ?_⟩
    dsimp only
    have fB := ((fA.trans f4).trans fL2).trans f5
    refine ⟨.int x, rfl, .int x, rfl, .int y, rfl, x, y, rfl, rfl, 1000, x + y, rfl, sz_of (by simp), fun p hp => ?_⟩
    have hp0 : H p = none := fr_back' fB hp
    refine q x _ p _ (fB.trans (Fr.new fB.bag hp)) hp0 (fB.bag.ne hp) upd_same hxb.1 hxb.2 ?_ ?_
    · split <;> omega
    · split <;> omega
end
end K27
namespace K27
open PySem L2 PyProof.Rows Tc Evl
section
variable {K : PySem.W.Frag} {H : Hp}
theorem rows_at_ref {v : V} {fs : List (Int × Int)} (h : Dp K H v (rowsD fs)) : ∃ p xs, v = .ref p ∧ SqT K H p xs ∧ DpAll K H xs (fs.map Tc.pairD) ∧ xs.length = fs.length := by
  cases h with
  | tup hs hA => exact ⟨_, _, rfl, hs, hA, by rw [dps_len hA, List.length_map]⟩
end
section
variable {K : PySem.W.Frag} {H H' : Hp} {fs : List (Int × Int)} {vs : List V}
theorem pairs_nl {bs : List V} {e : Addr} (hb : H e = some (.lst bs)) (x : Bar e H H') (h : DpAll K H vs (fs.map Tc.pairD)) : DpAll K H' vs (fs.map Tc.pairD) := dps_each (fun d md v => dp_nl hb x 1 d v (by
  obtain ⟨r, _, rfl⟩ := List.mem_map.mp md
  rfl)) h
end
section
variable {P : Program} {w : World} {K : PySem.W.Frag} {mg : Str → Option Value} {base : Heap}
theorem fRows_in {rws : List (Int × Int)} {k : Int} (h : (fRows rws k).isSome = true) : ∃ r ∈ rws, r.1 = k := by
  have g : ∀ (cs : List (Int × Option Int)) (f : Int → Option Int), (appl f cs k).isSome = true → (f k).isSome = true ∨ ∃ c ∈ cs, c.1 = k := by
    intro cs
    induction cs with
    | nil => exact fun f z => .inl z
    | cons c cs ih =>
      intro f z
      rcases ih _ z with z | ⟨c', m, e⟩
      · unfold fset at z
        by_cases e : k = c.1
        · exact .inr ⟨c, List.mem_cons_self, e.symm⟩
        · dsimp only at z
          rw [if_neg e] at z
          exact .inl z
      · exact .inr ⟨c', List.mem_cons_of_mem _ m, e⟩
  rcases g _ _ h with z | ⟨c, m, e⟩
  · cases z
  · obtain ⟨r, hr, rfl⟩ := List.mem_map.mp m
    exact ⟨r, hr, e⟩
end
section
variable {P : Program} {w : World} {K : PySem.W.Frag} {mg : Str → Option Value} {base : Heap}
abbrev Kn := Int → Option (Option Int)
def optV : Option Int → V
  | none => .non
  | some z => .int z
def kset (f : Kn) (k : Int) (o : Option Int) : Kn := fun j => if j = k then some o else f j
/-- changes learnt -/
def learnCs (f : Kn) (cs : List (Int × Option Int)) : Kn := cs.foldl (fun f c => kset f c.1 c.2) f
theorem learnCs_app (f : Kn) (a b : List (Int × Option Int)) : learnCs f (a ++ b) = learnCs (learnCs f a) b := by
  unfold learnCs
  rw [List.foldl_append]
structure KD (kvs : List (Key × V)) (f : Kn) : Prop where
  nd : (kvs.map (·.1)).Nodup
  inn : ∀ p ∈ kvs, ∃ k : Int, (0 ≤ k ∧ k < 1000) ∧ p.1 = Sum.inl k
  val : ∀ k, valV kvs (Sum.inl k) = (f k).map optV
theorem KD.nil : KD [] fun _ => none := ⟨List.nodup_nil, fun p m => (by cases m), fun k => rfl⟩
theorem KD.put {kvs : List (Key × V)} {f : Kn} {k : Int} {o : Option Int} (h : KD kvs f) (hk : 0 ≤ k ∧ k < 1000) : KD (putK kvs (.inl k) (optV o)) (kset f k o) := by
  refine ⟨?_, fun p m => ?_, fun j => ?_⟩
  · cases e : valV kvs (.inl k) with
    | none => exact nd_putK _ h.nd e
    | some v => rw [putK_old (by rw [e]; rfl)]; exact h.nd
  · rcases mem_putK m with e | ⟨q, m, e⟩
    · exact ⟨k, hk, e⟩
    · obtain ⟨j, hj, e'⟩ := h.inn q m
      exact ⟨j, hj, e ▸ e'⟩
  · rw [valV_put, h.val]
    unfold kset
    by_cases e : j = k
    · rw [if_pos e, if_pos (by rw [e])]
      rfl
    · rw [if_neg e, if_neg fun z => e (Sum.inl.inj z)]
theorem KD.len {kvs : List (Key × V)} {f : Kn} (h : KD kvs f) : kvs.length ≤ 1000 := by
  have : (kvs.map (·.1)).length ≤ (((List.range 1000).map Int.ofNat).map (Sum.inl : Int → Key)).length := len_sub h.nd fun x m => by
    obtain ⟨p, hp, rfl⟩ := List.mem_map.mp m
    obtain ⟨k, hk, e⟩ := h.inn p hp
    exact List.mem_map.mpr ⟨k, List.mem_map.mpr ⟨k.toNat, List.mem_range.mpr (by omega), by show ((k.toNat : Nat) : Int) = k; omega⟩, e.symm⟩
  simpa using this
/-- a piece learnt -/
def learnP (f : Kn) (a b : Int) (rws : List (Int × Int)) : Kn := fun k => if a ≤ k ∧ k < b ∧ f k = none then some (fRows rws k) else f k
/-- the keys of a stretch that are not known, rising -/
def newKeys (f : Kn) (a b : Int) : List Int := ((List.range (b - a).toNat).filter fun (i : Nat) => (f (a + (i : Int))).isNone).map fun (i : Nat) => a + (i : Int)
theorem mem_new {f : Kn} {a b k : Int} : k ∈ newKeys f a b ↔ a ≤ k ∧ k < b ∧ f k = none := by
  unfold newKeys
  rw [List.mem_map]
  constructor
  · rintro ⟨i, hi, rfl⟩
    obtain ⟨h1, h2⟩ := List.mem_filter.mp hi
    have := List.mem_range.mp h1
    exact ⟨by omega, by omega, Option.isNone_iff_eq_none.mp h2⟩
  · rintro ⟨h1, h2, h3⟩
    refine ⟨(k - a).toNat, List.mem_filter.mpr ⟨List.mem_range.mpr (by omega), ?_⟩, by omega⟩
    rw [show a + (((k - a).toNat : Nat) : Int) = k by omega, h3]
    rfl
/-- the new keys learnt one by one -/
theorem learn_new (f : Kn) (a b : Int) (rws : List (Int × Int)) : (newKeys f a b).foldl (fun g k => kset g k (fRows rws k)) f = learnP f a b rws := by
  have h : ∀ (l : List Int) (g : Kn) (k : Int), l.foldl (fun g k => kset g k (fRows rws k)) g k = if k ∈ l then some (fRows rws k) else g k := by
    intro l
    induction l with
    | nil => exact fun g k => by rw [if_neg (by simp)]; rfl
    | cons x l ih =>
      intro g k
      rw [List.foldl_cons, ih]
      by_cases m : k ∈ l
      · rw [if_pos m, if_pos (List.mem_cons_of_mem _ m)]
      · rw [if_neg m]
        unfold kset
        by_cases e : k = x
        · subst e
          rw [if_pos rfl, if_pos List.mem_cons_self]
        · rw [if_neg e, if_neg fun z => (List.mem_cons.mp z).elim e m]
  funext k
  rw [h]
  unfold learnP
  by_cases c : k ∈ newKeys f a b
  · rw [if_pos c, if_pos (mem_new.mp c)]
  · rw [if_neg c, if_neg fun z => c (mem_new.mpr z)]
def spLp (K : PySem.W.Frag) : Sp := fun vs H Q _ => ∃ (D sp : Addr) (kvs : List (Key × V)) (f : Kn) (v : V) (rws : List (Int × Int)) (a b : Int), vs = [.ref D, .ref sp, v] ∧ H D = some (.dK kvs) ∧ KD kvs f ∧ SqT K H sp [.int a, .int b] ∧ 0 ≤ a ∧ a ≤ b ∧ b ≤ 1000 ∧ Dp K H v (rowsD rws) ∧ rws.length ≤ 5000 ∧
  ∀ p kvs' H', H p = none → Bar D H H' → H' p = some (.lst ((newKeys f a b).map V.int)) → H' D = some (.dK kvs') → KD kvs' (learnP f a b rws) → Q (.ref p) H'
theorem take_rows {α : Type} (rs : List α) {i : Nat} {r : α} (h : rs[i]? = some r) : rs.take (i + 1) = rs.take i ++ [r] := by
  rw [List.take_succ, h]
  rfl
theorem Bar.fresh {D p : Addr} {H H' : Hp} (b : Bar D H H') (hD : H' D ≠ none) (hp : H' p = none) : H p = none := by
  have ne : p ≠ D := fun z => hD (z ▸ hp)
  cases e : H p with
  | none => rfl
  | some o =>
    rw [b p o ne e] at hp
    cases hp
end
section
variable {P : Program} {w : World} {K : PySem.W.Frag} {mg : Str → Option Value} {base : Heap}
abbrev sLp : Stmt := topS 42
theorem scLp : FnScope ["known", "stretch", "rows", "first", "last", "key", "worths", "new", "worth"] ["known", "stretch", "rows"] (defScope sLp) := ⟨rfl, rfl, rfl, by decide +kernel, rfl, by decide +kernel, by decide +kernel⟩
set_option maxHeartbeats 1000000 in
theorem ok_lp {f : Addr} {fd : FuncData} {k : Nat} (F : Fun K "learn_piece" "learn_piece" sLp f fd) (N : Names mg) : FnOk P w K mg base CX0 (k + 1) f fd ["known", "stretch", "rows"] (spLp K) := by
  refine F.ok scLp (fun vs H Q E h => ?_) (fun cdv A outer s H vs Q E hr h => ?_)
  · obtain ⟨D, sp, kvs, f, v, rws, a, b, rfl, _⟩ := h
    rfl
  · obtain ⟨D, sp, kvs, f, v, rws, a, b, rfl, hD, kd, hsp, a0, ab, b1, hv, rl, q⟩ := h
    refine ⟨_, (pss_cons (ps_asg (pv 1) (pg_tup rfl (pgs_cons (pg_name (i := 3) scLp.nd rfl (.inl rfl)) (pgs_cons (pg_name (i := 4) scLp.nd rfl (.inl rfl)) pgs_nil))))
      (pss_cons (ps_setDc (i := 6) (own := [("key", 5), ("worth", 8)]) (g := gTup K 2 (gCons (gName 5) (gCons (gName 8) gNil))) (tt := tYes) (tk := tVar 5) (tv := tVar 8) rfl scLp.nd rfl rfl (sw_trueD rfl rfl rfl (by decide +kernel)) (pi_tup (pv 2)) (blkOk_by (N := ["known", "stretch", "rows", "first", "last", "key", "worths", "new", "worth"]) (sc := defScope sLp) (by decide +kernel)) (fun _ _ _ _ _ => ⟨pg_tup rfl (pgs_cons (pg_name (i := 5) scLp.nd rfl (Or.inl rfl)) (pgs_cons (pg_name (i := 8) scLp.nd rfl (Or.inl rfl)) pgs_nil)), pts_nil, pv 5, pv 8⟩))
      (pss_cons (ps_setLc (i := 7) (own := [("key", 5)]) (g := gName 5) (tt := tTest (tDNotIn (tVar 5) (tVar 0))) (te := tVar 5) rfl scLp.nd rfl rfl (sw_true rfl rfl rfl (by decide +kernel)) (pi_range2 rfl N.range (pa_cons (pv 3) (pa_cons (pv 4) pa_nil))) (blkOk_by (N := ["known", "stretch", "rows", "first", "last", "key", "worths", "new", "worth"]) (sc := defScope sLp) (by decide +kernel)) (fun _ _ _ _ _ => pg_name (i := 5) scLp.nd rfl (Or.inl rfl)) (fun _ _ _ _ _ => pts_one (pt_cmp (pc_dnotin (hu_of hr) (pv 5) (pv 0)))) (fun _ _ _ _ _ => pv 5))
      (pss_cons (ps_for PassesOwn.never rfl (pi_list (pv 7)) (pg_name (i := 5) scLp.nd rfl (.inl rfl)) (pss_one (ps_dput (hu_of hr) (pv 0) (pv 5) (pe_dget1 (hu_of hr) (pv 6) (pv 5) ⟨rfl, rfl, rfl, rfl⟩) rfl)))
      (pss_one (ps_ret (pv 7))))))), ?_⟩
    refine s_seq ⟨.ref sp, rfl, sp, _, rfl, hsp, rfl, _, _, rfl, _, _, rfl, rfl, ?_⟩
    dsimp only
    obtain ⟨pr, xs, rfl, hp, hA, xl⟩ := rows_at_ref hv
    refine s_seq ⟨.ref pr, rfl, pr, rfl, ⟨xs, hp⟩, fun W hW => ?_⟩
    have x0 : Ex H (upd H W (.dK [])) := Ex.new hW
    refine dc_tup (K := K) (xs := xs) (fun i H' => ∃ kvw, Bar W (upd H W (.dK [])) H' ∧ H' W = some (.dK kvw) ∧ DI (rws.map (·.1)) kvw (fRows (rws.take i))) ⟨[], Bar.refl W _, upd_same, DI.nil⟩ (fun i H' _ h => ?_) (fun i x H' hx h => ?_) (fun H' h => ?_)
    · obtain ⟨kvw, bw, _, _⟩ := h
      exact bar_t (kvs := []) upd_same bw (Evl.ex_t x0 hp)
    · obtain ⟨kvw, bw, hW', di⟩ := h
      obtain ⟨d, hd, hxd⟩ := dps_at (dps_bar (kvs := []) upd_same bw _ _ (dps_same x0 _ _ hA)) hx
      rw [List.getElem?_map] at hd
      obtain ⟨r, hr', rfl⟩ := Option.map_eq_some_iff.mp hd
      obtain ⟨pa, u0, u1, rfl, ht, h0, h1⟩ := dpt2 hxd
      cases h0
      cases h1
      refine ⟨pa, _, rfl, ht, rfl, _, _, rfl, _, _, rfl, rfl, rfl, ?_⟩
      refine iteT (B := ∃ kvw, Bar W (upd H W (.dK [])) H' ∧ H' W = some (.dK kvw) ∧ DI (rws.map (·.1)) kvw (fRows (rws.take (i + 1)))) ⟨_, rfl, _, rfl, kvw, .inl r.1, rfl, hW', sz_lt (by have := di.len; rw [List.length_map] at this; omega), putK kvw (.inl r.1) (.int r.2), bw.put, upd_same, ?_⟩
      rw [take_rows rws hr']
      unfold fRows
      rw [List.map_append, appl_app]
      exact di.put (List.mem_map.mpr ⟨r, List.mem_of_getElem? hr', rfl⟩)
    · obtain ⟨kvw, bw, hW', di⟩ := h
      rw [xl, List.take_length] at di
      have xH : Ex H H' := bw.exOf x0 hW
      have WD : W ≠ D := fun z => by
        subst z
        rw [hD] at hW
        cases hW
      refine g_name ?_
      dsimp only
      have hD' := xH _ _ hD
      refine s_seq ⟨.int a, rfl, .int b, rfl, a, b, rfl, ⟨by omega, by omega, by omega, by omega⟩, fun Dl hDl => ?_⟩
      refine lc_range (lo := a) (n := (b - a).toNat) (Cw H' (fun i => (f (a + (i : Int))).isNone) (fun i => .int (a + (i : Int))) Dl) ⟨hDl, Ex.new hDl, upd_same⟩ (fun i G hi p => ⟨rfl, ?_⟩) (fun G p => g_name ?_)
      · refine cw_turn p (by omega) (fun G1 x1 Q' q' => ⟨.int (a + (i : Int)), rfl, .ref D, rfl, D, _, rfl, DGet.k (k := .inl (a + (i : Int))) (x1 _ _ hD'), _, rfl, ?_⟩) (fun _ => ev_var rfl)
        have e : (!(valV kvs (Sum.inl (a + (i : Int)))).isSome) = (f (a + (i : Int))).isNone := by
          rw [kd.val, Option.isSome_map]
          cases f (a + (i : Int)) <;> rfl
        rw [e]
        exact q' G1 (Ex.refl G1)
      · obtain ⟨_, xg, hDl'⟩ := p
        dsimp only
        have en : given (b - a).toNat (fun i => (f (a + (i : Int))).isNone) (fun i => V.int (a + (i : Int))) = (newKeys f a b).map V.int := by
          unfold given newKeys
          rw [List.map_map]
          rfl
        rw [en] at hDl'
        have Dl0 : H Dl = none := fresh_back xH hDl
        have DlD : Dl ≠ D := fun z => by
          subst z
          rw [hD] at Dl0
          cases Dl0
        have hDG := xg _ _ hD'
        have hWG := xg _ _ hW'
        refine s_seq (s_forL (K := K) (a := Dl) (xs := (newKeys f a b).map V.int) (ev_var rfl) (sq_of hDl') (fun j σ2 G2 => ∃ y5 kvs2, σ2 = [some (.ref D), some (.ref sp), some (.ref pr), some (.int a), some (.int b), y5, some (.ref W), some (.ref Dl), none] ∧ Bar D G G2 ∧ G2 D = some (.dK kvs2) ∧ KD kvs2 (((newKeys f a b).take j).foldl (fun g k => kset g k (fRows rws k)) f)) (fun G1 x1 => ⟨none, kvs, rfl, Bar.ex x1, x1 _ _ hDG, kd⟩) (fun j σ2 G2 _ ⟨_, _, _, b2, _⟩ => sq_of (b2 _ _ DlD hDl')) ?_ ?_)
        · rintro j x σ2 G2 hx ⟨y5, kvs2, rfl, b2, hD2, kd2⟩
          rw [List.getElem?_map] at hx
          obtain ⟨kk, hkk, rfl⟩ := Option.map_eq_some_iff.mp hx
          obtain ⟨k1, k2, k3⟩ := mem_new.mp (List.mem_of_getElem? hkk)
          refine g_name ?_
          dsimp only
          have hW2 : G2 W = some (.dK kvw) := b2 _ _ WD hWG
          refine ⟨.ref W, rfl, W, rfl, .inl ⟨kvw, .inl hW2⟩, .int kk, rfl, _, DGet.k (k := .inl kk) hW2, .ref D, rfl, .int kk, rfl, D, _, rfl, DPut.k (k := .inl kk) hD2 (sz_lt (by have := kd2.len; omega)), ?_⟩
          have ev : ((valV kvw (Sum.inl kk)).getD .non) = optV (fRows rws kk) := by
            rw [di.val]
            cases fRows rws kk <;> rfl
          rw [ev]
          refine ⟨_, _, rfl, b2.put, upd_same, ?_⟩
          rw [take_rows _ hkk, List.foldl_append]
          exact kd2.put ⟨by omega, by omega⟩
        · rintro σ2 G2 ⟨y5, kvs2, rfl, b2, hD2, kd2⟩
          rw [List.length_map, List.take_length, learn_new] at kd2
          exact ⟨.ref Dl, rfl, q Dl kvs2 G2 Dl0 ((Bar.ex (xH.trans xg)).trans b2) (b2 _ _ DlD hDl') hD2 kd2⟩
end
section
variable {P : Program} {w : World} {K : PySem.W.Frag} {mg : Str → Option Value} {base : Heap}
/-- the rows of a dict, by keys -/
def spRising (K : PySem.W.Frag) : Sp := fun vs H Q _ => ∃ (D : Addr) (ks : List Int) (kvs : List (Key × V)) (f : Int → Option Int), vs = [.ref D] ∧ H D = some (.dK kvs) ∧ DI ks kvs f ∧ ks.length ≤ 1000 ∧
  ∀ p js H', H p = none → Ex H H' → KeysOf f js → (∀ j ∈ js, j ∈ ks) → TP K H' p (rowsOf f js) → Q (.ref p) H'
/-- the fewest stretches of rising keys -/
def stp (acc : List (Int × Int)) (k : Int) : List (Int × Int) := match acc.getLast? with
  | some r => if r.2 = k then acc.dropLast ++ [(r.1, k + 1)] else acc ++ [(k, k + 1)]
  | none => acc ++ [(k, k + 1)]
def spansF (ks : List Int) : List (Int × Int) := ks.foldl stp []
def stpT (acc : List (Int × Int)) (k : Int) : Bool := match acc.getLast? with
  | some r => decide (r.2 = k)
  | none => false
theorem stp_len (acc : List (Int × Int)) (k : Int) : (stp acc k).length ≤ acc.length + 1 := by
  unfold stp
  split
  · split
    · simp only [List.length_append, List.length_dropLast, List.length_cons, List.length_nil]
      omega
    · simp only [List.length_append, List.length_cons, List.length_nil]
      omega
  · simp only [List.length_append, List.length_cons, List.length_nil]
    omega
theorem neg1_at {α : Type} (init : List α) (z : α) : ixN (init ++ [z]).length (-1) = some init.length := by
  rw [show (init ++ [z]).length = init.length + 1 by simp]
  unfold ixN
  rw [if_neg (by decide), if_pos (by omega)]
  congr 1
  omega
theorem atI_last (init : List V) (z : V) : atI (init ++ [z]) (-1) = some z := by
  unfold atI
  rw [neg1_at]
  show (init ++ [z])[init.length]? = some z
  rw [List.getElem?_append_right (Nat.le_refl _), Nat.sub_self]
  rfl
theorem dps_split {K : PySem.W.Frag} {H : Hp} {vs : List V} {ds : List PyData} {d : PyData} (h : DpAll K H vs (ds ++ [d])) : ∃ us u, vs = us ++ [u] ∧ DpAll K H us ds ∧ Dp K H u d := by
  have hl := dps_len h
  rcases List.eq_nil_or_concat vs with e | ⟨us, u, e⟩
  · subst e
    rw [List.length_append] at hl
    simp at hl
  · rw [List.concat_eq_append] at e
    subst e
    rw [List.length_append, List.length_append] at hl
    have hl' : us.length = ds.length := by simp at hl; exact hl
    have h1 := dps_take us.length h
    have h2 := dps_drop us.length h
    rw [List.take_left' rfl, hl', List.take_left' rfl] at h1
    rw [List.drop_left' rfl, hl', List.drop_left' rfl] at h2
    cases h2 with
    | cons a t => exact ⟨us, u, rfl, h1, a⟩
/-- one more key -/
theorem sp_turn {tt : TT} {D : Ends} {x0 : Option V} {L : Addr} {k : Int} {H : Hp} {vs : List V} {acc : List (Int × Int)} (hL : H L = some (.lst vs)) (dA : DpAll K H vs (acc.map Tc.pairD)) (few : acc.length ≤ 5000)
    (ht : EvT tt [x0, some (.ref L), some (.int k)] H (stpT acc k)) (q : ∀ vs2 H2, Bar L H H2 → H2 L = some (.lst vs2) → DpAll K H2 vs2 ((stp acc k).map Tc.pairD) → D.nx [x0, some (.ref L), some (.int k)] H2) :
    tIfS tt (tAsg (tTup (tCons (tOp (rIxT K) (tOp (rIxL K) (tVar 1) (tUn (rU fun i => .int (-i)) (tC (.int 1)))) (tC (.int 0))) (tCons (tOp (rI0 fun i j => .int (i + j)) (tVar 2) (tC (.int 1))) tNil))) (gSub (tVar 1) (tUn (rU fun i => .int (-i)) (tC (.int 1))) rSetL)) (tDrop (tBM K "list" rAppend (tVar 1) (tCons (tTup (tCons (tVar 2) (tCons (tOp (rI0 fun i j => .int (i + j)) (tVar 2) (tC (.int 1))) tNil))) tNil))) D [x0, some (.ref L), some (.int k)] H := by
  have vl : vs.length = acc.length := by rw [dps_len dA, List.length_map]
  refine s_if ht (fun c H1 x1 => ?_) (fun c H1 x1 => ?_)
  · unfold stpT at c
    rcases List.eq_nil_or_concat acc with e | ⟨init, r, e⟩
    · subst e
      cases c
    · rw [List.concat_eq_append] at e
      subst e
      have gl : (init ++ [r]).getLast? = some r := by simp
      rw [gl] at c
      have c1 : r.2 = k := of_decide_eq_true c
      rw [List.map_append] at dA
      obtain ⟨us, u, rfl, d1, d2⟩ := dps_split dA
      obtain ⟨t, u0, u1, rfl, ht', h0, h1⟩ := dpt2 d2
      cases h0
      cases h1
      have es : stp (init ++ [r]) k = init ++ [(r.1, k + 1)] := by
        unfold stp
        rw [gl]
        show (if r.2 = k then _ else _) = _
        rw [if_pos c1, List.dropLast_concat]
      rw [es] at q
      refine (ev_ix0 (ev_op (ev_var rfl) (ev_un ev_c ru_neg) (rv_ixL (sq_of (x1 _ _ hL)) (atI_last us _))) (Evl.ex_t x1 ht')) H1 (Ex.refl H1) _ fun H2 x2 => ⟨.int k, rfl, k, 1, rfl, rfl, sz_of (by simp), fun p hp => ⟨.ref L, rfl, 1, rfl, L, _, -1, us.length, rfl, rfl, Ex.new hp _ _ (x2 _ _ (x1 _ _ hL)), neg1_at us _, ?_⟩⟩
      have xp : Ex H2 (upd H2 p (.tup [.int r.1, .int (k + 1)])) := Ex.new hp
      have hp' : (upd H2 p (.tup [.int r.1, .int (k + 1)])) p = some (.tup [.int r.1, .int (k + 1)]) := upd_same
      generalize hG : upd H2 p (.tup [.int r.1, .int (k + 1)]) = G at xp hp'
      have x1G := (x1.trans x2).trans xp
      have sl : (us ++ [V.ref t]).set us.length (.ref p) = us ++ [.ref p] := by
        rw [List.set_append_right _ _ (Nat.le_refl _), Nat.sub_self]
        rfl
      rw [sl]
      have bL : Bar L G (upd G L (.lst (us ++ [.ref p]))) := (Bar.refl L G).put
      refine q _ _ ((Bar.ex x1G).trans bL) upd_same ?_
      rw [List.map_append]
      exact dps_app (pairs_nl (x1G _ _ hL) bL (dps_same x1G _ _ d1)) (.cons (dp_nl (x1G _ _ hL) bL 1 _ _ rfl (.tup (st_of hp') (.cons (.int _) (.cons (.int _) .nil)))) .nil)
  · have es : stp acc k = acc ++ [(k, k + 1)] := by
      unfold stp
      unfold stpT at c
      split
      · rename_i r e
        rw [e] at c
        rw [if_neg (of_decide_eq_false c)]
      · rfl
    rw [es] at q
    refine ⟨.ref L, rfl, .inl ⟨rfl, vs, sq_of (x1 _ _ hL)⟩, .int k, rfl, .int k, rfl, k, 1, rfl, rfl, sz_of (by simp), fun p hp => ⟨L, vs, .ref p, rfl, rfl, Ex.new hp _ _ (x1 _ _ hL), sz_lt (by omega), ?_⟩⟩
    have xp : Ex H1 (upd H1 p (.tup [.int k, .int (k + 1)])) := Ex.new hp
    have hp' : (upd H1 p (.tup [.int k, .int (k + 1)])) p = some (.tup [.int k, .int (k + 1)]) := upd_same
    generalize hG : upd H1 p (.tup [.int k, .int (k + 1)]) = G at xp hp'
    have x1G := x1.trans xp
    have bL : Bar L G (upd G L (.lst (vs ++ [.ref p]))) := (Bar.refl L G).put
    refine q _ _ ((Bar.ex x1G).trans bL) upd_same ?_
    rw [List.map_append]
    exact dps_app (pairs_nl (x1G _ _ hL) bL (dps_same x1G _ _ dA)) (.cons (dp_nl (x1G _ _ hL) bL 1 _ _ rfl (.tup (st_of hp') (.cons (.int _) (.cons (.int _) .nil)))) .nil)
/-- the second half of the test -/
theorem sp_test {t1 : TT} {x0 : Option V} {L : Addr} {k : Int} {H : Hp} {vs : List V} {acc : List (Int × Int)} (hL : H L = some (.lst vs)) (dA : DpAll K H vs (acc.map Tc.pairD)) (h1 : EvT t1 [x0, some (.ref L), some (.int k)] H (!vs.isEmpty)) :
    EvT (tAnd t1 (tTest (tOp rEq (tOp (rIxT K) (tOp (rIxL K) (tVar 1) (tUn (rU fun i => .int (-i)) (tC (.int 1)))) (tC (.int 1))) (tVar 2)))) [x0, some (.ref L), some (.int k)] H (stpT acc k) := by
  have vl : vs.length = acc.length := by rw [dps_len dA, List.length_map]
  rcases List.eq_nil_or_concat acc with e | ⟨init, r, e⟩
  · subst e
    have ev : vs = [] := List.eq_nil_of_length_eq_zero vl
    subst ev
    exact et_is (et_and (b := false) h1 fun z => by cases z) rfl
  · rw [List.concat_eq_append] at e
    subst e
    rw [List.map_append] at dA
    obtain ⟨us, u, rfl, d1, d2⟩ := dps_split dA
    obtain ⟨t, u0, u1, rfl, ht', h0, h1'⟩ := dpt2 d2
    cases h0
    cases h1'
    have gl : (init ++ [r]).getLast? = some r := by simp
    refine et_is (et_and h1 fun _ => et_test (ev_op (ev_ix1 (ev_op (ev_var rfl) (ev_un ev_c ru_neg) (rv_ixL (sq_of hL) (atI_last us _))) ht') (ev_var rfl) (rv_eq rfl))) ?_
    unfold stpT
    rw [gl]
    have e1 : (!(us ++ [V.ref t]).isEmpty) = true := by simp
    rw [e1, Bool.true_and]
    exact decide_eq_decide.mpr ⟨fun z => V.int.inj z, fun z => congrArg V.int z⟩
def spSo (K : PySem.W.Frag) : Sp := fun vs H Q _ => ∃ (l : Addr) (ks : List Int), vs = [.ref l] ∧ H l = some (.lst (ks.map V.int)) ∧ ks.length ≤ 1000 ∧ ∀ p H', H p = none → Ex H H' → TP K H' p (spansF ks) → Q (.ref p) H'
def spSpans (K : PySem.W.Frag) : Sp := fun vs H Q _ => ∃ (d : Addr) (kvs : List (Key × V)) (ks : List Int), vs = [.ref d] ∧ H d = some (.dK kvs) ∧ kvs.map (·.1) = ks.map Sum.inl ∧ ks.length ≤ 1000 ∧ ∀ p ms H', H p = none → Ex H H' → ms.Perm ks → ms.Pairwise (· ≤ ·) → TP K H' p (spansF ms) → Q (.ref p) H'
theorem spans_take (ks : List Int) {j : Nat} {k : Int} (h : ks[j]? = some k) : (ks.take (j + 1)).foldl stp [] = stp ((ks.take j).foldl stp []) k := by
  rw [take_rows ks h, List.foldl_append]
  rfl
theorem spans_few : ∀ (ks : List Int) (acc : List (Int × Int)), (ks.foldl stp acc).length ≤ acc.length + ks.length
  | [], _ => Nat.le_refl _
  | k :: ks, acc => by
    rw [List.foldl_cons]
    rw [List.length_cons]
    have h1 := spans_few ks (stp acc k)
    have h2 := stp_len acc k
    omega
end
section
variable {P : Program} {w : World} {K : PySem.W.Frag} {mg : Str → Option Value} {base : Heap}
abbrev sRi : Stmt := topS 36
theorem scRi : FnScope ["rows", "key"] ["rows"] (defScope sRi) := ⟨rfl, rfl, rfl, by decide +kernel, rfl, by decide +kernel, by decide +kernel⟩
theorem ok_rising {f : Addr} {fd : FuncData} {k : Nat} (F : Fun K "rising" "rising" sRi f fd) (N : Names mg) : FnOk P w K mg base CX0 (k + 1) f fd ["rows"] (spRising K) := by
  refine F.ok scRi (fun vs H Q E h => ?_) (fun cdv A outer s H vs Q E hr h => ?_)
  · obtain ⟨D, ks, kvs, f, rfl, _⟩ := h
    rfl
  · obtain ⟨D, ks, kvs, f, rfl, hD2, di, h64, q⟩ := h
    refine ⟨_, pss_one (ps_ret (pe_callTy cr_tupP (by rfl) N.tuple boot_tuple (pa_cons (pe_lc (own := [("key", 1)]) (g := gName 1) (tt := tYes) (te := tTup (tCons (tVar 1) (tCons (tDGet (tVar 0) (tVar 1)) tNil))) rfl scRi.nd (pi_list (pe_callB (cr_sortedDA rfl) (by rfl) N.sorted boot_sorted (pa_cons (pv 0) pa_nil))) (blkOk_by (N := ["rows", "key"]) (sc := defScope sRi) (by decide +kernel)) (fun _ _ _ _ _ => pg_name (i := 1) scRi.nd rfl (Or.inl rfl)) (fun _ _ _ _ _ => pts_nil) (fun _ _ _ _ _ => (pe_tup (pa_cons (pv 1) (pa_cons (pe_dget (hu_of hr) (pv 0) (pv 1) (fun _ _ => rfl)) pa_nil))))) pa_nil))), ?_⟩
    obtain ⟨js0, hks, nd, mem, hlen⟩ := di.keys
    refine ⟨.ref D, rfl, D, kvs, js0, rfl, .inl hD2, hks, fun ys p pm pw hp => ⟨p, rfl, ⟨_, sq_of upd_same⟩, fun D2 hD3 => ?_⟩⟩
    have ndy : ys.Nodup := pm.nodup_iff.mpr nd
    have kf : KeysOf f ys := ⟨lt_of_le_nodup pw ndy, fun k => (pm.mem_iff).trans (mem k)⟩
    have x3 : Ex H (upd H p (.lst (ys.map V.int))) := Ex.new hp
    generalize hH3 : upd H p (.lst (ys.map V.int)) = H3 at x3 hD3
    have hp3 : H3 p = some (.lst (ys.map V.int)) := by rw [← hH3]; exact upd_same
    refine lc_list (K := K) (a := p) (xs := ys.map V.int) (fun i H' => ∃ vs, Ex H3 H' ∧ H' D2 = some (.lst vs) ∧ vs.length = i ∧ DpAll K (hid D2 H') vs ((rowsOf f (ys.take i)).map Tc.pairD)) ⟨[], Ex.new hD3, upd_same, rfl, .nil⟩ (fun i H' _ h => ?_) (fun i x H' hx h => ⟨rfl, ?_⟩) (fun H' h => ?_)
    · obtain ⟨vs, x4, _⟩ := h
      exact sq_of (x4 p _ hp3)
    · obtain ⟨vs, x4, h4, hvl, hv⟩ := h
      rw [List.getElem?_map] at hx
      obtain ⟨kk, hkk, rfl⟩ := Option.map_eq_some_iff.mp hx
      have hm := (kf.2 kk).mp (List.mem_of_getElem? hkk)
      obtain ⟨ww, hww⟩ := Option.isSome_iff_exists.mp hm
      have hval : valV kvs (.inl kk) = some (.int ww) := by rw [di.val, hww]; rfl
      have hi : i < ys.length := (List.getElem?_eq_some_iff.mp hkk).1
      have hyl : ys.length = js0.length := pm.length_eq
      refine iteT (B := ∃ vs, Ex H3 H' ∧ H' D2 = some (.lst vs) ∧ vs.length = i + 1 ∧ DpAll K (hid D2 H') vs ((rowsOf f (ys.take (i + 1))).map Tc.pairD)) ?_
      refine ⟨.int kk, rfl, .ref D, rfl, .int kk, rfl, D, .int ww, rfl, by rw [← hval]; exact DGet.k (k := .inl kk) (x4 D _ (x3 D _ hD2)), sz_of (by simp), fun t ht => ?_⟩
      have htD : t ≠ D2 := fun z => by
        subst z
        rw [h4] at ht
        cases ht
      have x5 : Ex H' (upd H' t (.tup [.int kk, .int ww])) := Ex.new ht
      refine ⟨vs, x5 D2 _ h4, sz_lt (by omega), vs ++ [.ref t], (x4.trans x5).mut hD3, upd_same, by simp [hvl], ?_⟩
      rw [hid_upd, List.take_succ, hkk]
      unfold rowsOf
      rw [List.map_append, List.map_append]
      refine dps_app (dps_same (ex_hid x5) _ _ hv) (.cons ?_ .nil)
      show Dp K _ (.ref t) (.tuple [.int kk, .int ((f kk).getD 0)])
      rw [hww]
      exact .tup (st_of (hid_at upd_same htD)) (.cons (.int kk) (.cons (.int ww) .nil))
    · obtain ⟨vs, x4, h4, _, hv⟩ := h
      rw [List.length_map, List.take_length] at hv
      refine ⟨D2, vs, rfl, sq_of h4, fun t o ht od => ?_⟩
      have xA : Ex H (upd H' t (.frz o (.tup vs))) := (x3.trans x4).trans (Ex.new ht)
      have tn : H t = none := by
        cases e : H t with
        | none => rfl
        | some u =>
          have := ((x3.trans x4) t u e).symm.trans ht
          cases this
      refine q t ys _ tn xA kf (fun j m => ?_) ⟨vs, ⟨o, upd_same, od⟩, dps_same (Ex.new ht) _ _ (dps_same (hid_same D2 H') _ _ hv)⟩
      have := (kf.2 j).mp m
      rw [← (mem j)] at this
      have h2 : (Sum.inl j : Key) ∈ kvs.map (·.1) := hks ▸ List.mem_map.mpr ⟨j, this, rfl⟩
      obtain ⟨pp, hp1, hp2⟩ := List.mem_map.mp h2
      obtain ⟨kk, hk1, hk2⟩ := di.inn pp hp1
      cases (hp2.symm.trans hk2 : (Sum.inl j : Key) = Sum.inl kk)
      exact hk1
abbrev sSo : Stmt := topS 39
theorem scSo : FnScope ["keys", "stretches", "key"] ["keys"] (defScope sSo) := ⟨rfl, rfl, rfl, by decide +kernel, rfl, by decide +kernel, by decide +kernel⟩
theorem ok_so {f : Addr} {fd : FuncData} {k : Nat} (F : Fun K "stretches_of" "stretches_of" sSo f fd) (N : Names mg) : FnOk P w K mg base CX0 (k + 1) f fd ["keys"] (spSo K) := by
  refine F.ok scSo (fun vs H Q E h => ?_) (fun cdv A outer s H vs Q E hr h => ?_)
  · obtain ⟨l, ks, rfl, _⟩ := h
    rfl
  · obtain ⟨l, ks, rfl, hl, kl, q⟩ := h
    refine ⟨_, (pss_cons (ps_set (i := 1) scSo.nd rfl (.inl rfl) (pe_lst pa_nil))
      (pss_cons (ps_for PassesOwn.never rfl (pi_list (pv 0)) (pg_name (i := 2) scSo.nd rfl (.inl rfl)) (pss_one (ps_if (PW.pt (pw_and (pt_truth (pv 1) (fun _ => rfl)) (pw_and1 (pt_cmpR op_eq (pe_ix ix_tup (pe_ix ix_list (pv 1) (pe_un un_neg pe_int) (fun _ _ => rfl)) pe_int (fun _ _ => rfl)) (pv 2) (nomark _))))) (pss_one (ps_asg (pe_tup (pa_cons (pe_ix ix_tup (pe_ix ix_list (pv 1) (pe_un un_neg pe_int) (fun _ _ => rfl)) pe_int (fun _ _ => rfl)) (pa_cons (pe_op op_add (pv 2) pe_int) pa_nil))) (pg_sub (pv 1) (pe_un un_neg pe_int) set_list))) (pss_one (ps_expr (pe_bm PySem.F.plainAttrs_list PySem.F.slot_list_append PySem.F.type_list_append mt_append (pv 1) (pa_cons (pe_tup (pa_cons (pv 2) (pa_cons (pe_op op_add (pv 2) pe_int) pa_nil))) pa_nil)))))))
      (pss_one (ps_ret (pe_callTy cr_tupP (by rfl) N.tuple boot_tuple (pa_cons (pv 1) pa_nil)))))), ?_⟩
    refine s_seq ⟨Nat.zero_le _, fun L hL => g_name ?_⟩
    dsimp only
    have x1 : Ex H (upd H L (.lst [])) := Ex.new hL
    have h1 : (upd H L (.lst [])) L = some (.lst []) := upd_same
    generalize hH1 : upd H L (.lst []) = H1 at x1 h1
    have lL : l ≠ L := fun z => by
      subst z
      rw [hl] at hL
      cases hL
    refine s_seq (s_forL (K := K) (a := l) (xs := ks.map V.int) (ev_var rfl) (sq_of (x1 _ _ hl)) (fun j σ2 G => ∃ y2 vs, σ2 = [some (.ref l), some (.ref L), y2] ∧ Bar L H1 G ∧ G L = some (.lst vs) ∧ DpAll K G vs (((ks.take j).foldl stp []).map Tc.pairD)) (fun G xg => ⟨none, [], rfl, Bar.ex xg, xg _ _ h1, .nil⟩) (fun j σ2 G _ ⟨_, _, _, b, _⟩ => sq_of (b _ _ lL (x1 _ _ hl))) ?_ ?_)
    · rintro j x σ2 G hx ⟨y2, vs, rfl, b, hLG, dA⟩
      rw [List.getElem?_map] at hx
      obtain ⟨kk, hkk, rfl⟩ := Option.map_eq_some_iff.mp hx
      have few := spans_few (ks.take j) []
      rw [List.length_take] at few
      simp only [List.length_nil] at few
      refine g_name ?_
      dsimp only
      refine sp_turn (K := K) hLG dA (by omega) (sp_test hLG dA fun G1 x1' Q' q' => ⟨.ref L, rfl, _, .inl ⟨vs, sq_of (x1' _ _ hLG), rfl⟩, q' G1 (Ex.refl G1)⟩) fun vs2 G2 b2 hL2 dA2 => ?_
      rw [← spans_take ks hkk] at dA2
      exact ⟨_, vs2, rfl, b.trans b2, hL2, dA2⟩
    · rintro σ2 G ⟨y2, vs, rfl, b, hLG, dA⟩
      rw [List.length_map, List.take_length] at dA
      have xG : Ex H G := b.exOf x1 hL
      exact ⟨.ref L, rfl, L, vs, rfl, sq_of hLG, fun t o ht od => q t _ (fresh_back xG ht) (xG.trans (Ex.new ht)) ⟨vs, ⟨o, upd_same, od⟩, dps_same (Ex.new ht) _ _ dA⟩⟩
abbrev sSpans : Stmt := topS 62
theorem scSpans : FnScope ["keys", "found", "key"] ["keys"] (defScope sSpans) := ⟨rfl, rfl, rfl, by decide +kernel, rfl, by decide +kernel, by decide +kernel⟩
theorem ok_spans {f : Addr} {fd : FuncData} {k : Nat} (F : Fun K "_law_spans" "_law_spans" sSpans f fd) (N : Names mg) : FnOk P w K mg base CX0 (k + 1) f fd ["keys"] (spSpans K) := by
  refine F.ok scSpans (fun vs H Q E h => ?_) (fun cdv A outer s H vs Q E hr h => ?_)
  · obtain ⟨d, kvs, ks, rfl, _⟩ := h
    rfl
  · obtain ⟨d, kvs, ks0, rfl, hd, hks, kl, q⟩ := h
    refine ⟨_, (pss_cons (ps_set (i := 1) scSpans.nd rfl (.inl rfl) (pe_lst pa_nil))
      (pss_cons (ps_for PassesOwn.never rfl (pi_list (pe_callB (cr_sortedDA rfl) (by rfl) N.sorted boot_sorted (pa_cons (pv 0) pa_nil))) (pg_name (i := 2) scSpans.nd rfl (.inl rfl)) (pss_one (ps_if (PW.pt (pw_and (pt_cmpR (op_neE hr.units) (pv 1) (pe_lst pa_nil) (nomark _)) (pw_and1 (pt_cmpR op_eq (pe_ix ix_tup (pe_ix ix_list (pv 1) (pe_un un_neg pe_int) (fun _ _ => rfl)) pe_int (fun _ _ => rfl)) (pv 2) (nomark _))))) (pss_one (ps_asg (pe_tup (pa_cons (pe_ix ix_tup (pe_ix ix_list (pv 1) (pe_un un_neg pe_int) (fun _ _ => rfl)) pe_int (fun _ _ => rfl)) (pa_cons (pe_op op_add (pv 2) pe_int) pa_nil))) (pg_sub (pv 1) (pe_un un_neg pe_int) set_list))) (pss_one (ps_expr (pe_bm PySem.F.plainAttrs_list PySem.F.slot_list_append PySem.F.type_list_append mt_append (pv 1) (pa_cons (pe_tup (pa_cons (pv 2) (pa_cons (pe_op op_add (pv 2) pe_int) pa_nil))) pa_nil)))))))
      (pss_one (ps_ret (pe_callTy cr_tupP (by rfl) N.tuple boot_tuple (pa_cons (pv 1) pa_nil)))))), ?_⟩
    refine s_seq ⟨Nat.zero_le _, fun L hL => g_name ?_⟩
    dsimp only
    have x0 : Ex H (upd H L (.lst [])) := Ex.new hL
    have h0 : (upd H L (.lst [])) L = some (.lst []) := upd_same
    generalize hH0 : upd H L (.lst []) = H0 at x0 h0
    refine s_seq ⟨.ref d, rfl, d, kvs, ks0, rfl, .inl (x0 _ _ hd), hks, fun ks l pm pw hl' => ⟨l, rfl, ⟨_, sq_of upd_same⟩, ?_⟩⟩
    have xl : Ex H0 (upd H0 l (.lst (ks.map V.int))) := Ex.new hl'
    have hl : (upd H0 l (.lst (ks.map V.int))) l = some (.lst (ks.map V.int)) := upd_same
    generalize hH1 : upd H0 l (.lst (ks.map V.int)) = H1 at xl hl
    have h1 := xl _ _ h0
    have x1 := x0.trans xl
    have kl2 : ks.length ≤ 1000 := by rw [pm.length_eq]; exact kl
    have lL : l ≠ L := fun z => by
      subst z
      rw [h0] at hl'
      cases hl'
    refine for_list (K := K) (a := l) (xs := ks.map V.int) (fun j σ2 G => ∃ y2 vs, σ2 = [some (.ref d), some (.ref L), y2] ∧ Bar L H1 G ∧ G L = some (.lst vs) ∧ DpAll K G vs (((ks.take j).foldl stp []).map Tc.pairD)) ⟨none, [], rfl, Bar.refl L H1, h1, .nil⟩ (fun j σ2 G _ ⟨_, _, _, b, _⟩ => sq_of (b _ _ lL hl)) ?_ ?_
    · rintro j x σ2 G hx ⟨y2, vs, rfl, b, hLG, dA⟩
      rw [List.getElem?_map] at hx
      obtain ⟨kk, hkk, rfl⟩ := Option.map_eq_some_iff.mp hx
      have few := spans_few (ks.take j) []
      rw [List.length_take] at few
      simp only [List.length_nil] at few
      refine g_name ?_
      dsimp only
      refine sp_turn (K := K) hLG dA (by omega) (sp_test hLG dA (et_test (ev_opL (ev_var rfl) (el_lst ea_nil (by simp)) fun p G1 hp e G2 e2 Q' q' => ⟨L, p, vs, rfl, rfl, sq_of (e2 _ _ (e _ _ hLG)), sq_of (e2 _ _ hp), q' G2 (Ex.refl G2)⟩))) fun vs2 G2 b2 hL2 dA2 => ?_
      rw [← spans_take ks hkk] at dA2
      exact ⟨_, vs2, rfl, b.trans b2, hL2, dA2⟩
    · rintro σ2 G ⟨y2, vs, rfl, b, hLG, dA⟩
      rw [List.length_map, List.take_length] at dA
      have xG : Ex H G := b.exOf x1 hL
      exact ⟨.ref L, rfl, L, vs, rfl, sq_of hLG, fun t o ht od => q t ks _ (fresh_back xG ht) (xG.trans (Ex.new ht)) pm pw ⟨vs, ⟨o, upd_same, od⟩, dps_same (Ex.new ht) _ _ dA⟩⟩
end
section
variable {P : Program} {w : World} {K : PySem.W.Frag} {mg : Str → Option Value} {base : Heap}
/-- a dict's comprehension over the keys of a locked dict -/
theorem dc_keys {d : Addr} {o : Obj} {kvs : List (Key × V)} {g : TG} {tt : TT} {tk tv : TE} {own : List Nat} {σ : L2.St} {H1 : Hp} {D : Addr} {Fin : Hp → Prop} (Pv : Nat → Hp → Prop) (h0 : Pv 0 (upd H1 D (.dK []))) (hl : ∀ j G, j ≤ kvs.length → Pv j G → G d = some (.frz o (.dK kvs)))
    (hs : ∀ j k v G, kvs[j]? = some (k, v) → Pv j G → g (kV k) (wipe σ own) G fun τ G2 => wipe τ own = wipe σ own ∧ tt τ G2 fun c G3 => if c = true then (tk τ G3 fun y G4 => tv τ G4 fun z G5 => ∃ acc key, y = kV key ∧ G5 D = some (.dK acc) ∧ acc.length < sizeLine ∧ Pv (j + 1) (upd G5 D (.dK (putK acc key z)))) else Pv (j + 1) G3) (hd : ∀ G, Pv kvs.length G → Fin G) :
    ∃ R : Nat → Nat → Hp → Prop, (∃ n, R 0 n (upd H1 D (.dK []))) ∧ ∀ j n G, R j n G → ((Itk d o kvs).stop j G ∧ Fin G) ∨ ((Itk d o kvs).go j G ∧ ∃ On : Hp → Prop, (∀ G', On G' → ∃ n', n' < n ∧ R (j + 1) n' G') ∧
      ∀ x G', (Itk d o kvs).yld j G x G' → g x (wipe σ own) G' fun τ G2 => wipe τ own = wipe σ own ∧ tt τ G2 fun c G3 => if c = true then (tk τ G3 fun y G4 => tv τ G4 fun z G5 => ∃ acc key, y = kV key ∧ G5 D = some (.dK acc) ∧ acc.length < sizeLine ∧ On (upd G5 D (.dK (putK acc key z)))) else On G3) := by
  refine ⟨fun j n G => j ≤ kvs.length ∧ n = kvs.length - j ∧ Pv j G, ⟨_, Nat.zero_le _, rfl, h0⟩, ?_⟩
  intro j n G ⟨hj, en, p⟩
  have at1 := hl j G hj p
  rcases Nat.lt_or_ge j kvs.length with lt | ge
  · refine .inr ⟨⟨at1, lt⟩, Pv (j + 1), fun G' p' => ⟨kvs.length - (j + 1), by omega, by omega, rfl, p'⟩, ?_⟩
    rintro x G' ⟨rfl, k, v, e, rfl⟩
    exact hs j k v _ e p
  · have e : j = kvs.length := Nat.le_antisymm hj ge
    subst e
    exact .inl ⟨⟨at1, Nat.le_refl _⟩, hd G p⟩
def spKr (K : PySem.W.Frag) : Sp := fun vs H Q _ => ∃ (D : Addr) (ks : List Int) (kvs : List (Key × V)) (f : Kn), vs = [.ref D] ∧ H D = some (.dK kvs) ∧ KD kvs f ∧ (∀ k, ((f k).join).isSome = true → k ∈ ks) ∧ ks.length ≤ 1000 ∧
  ∀ p js H', H p = none → Ex H H' → KeysOf (fun k => (f k).join) js → (∀ j ∈ js, j ∈ ks) → TP K H' p (rowsOf (fun k => (f k).join) js) → Q (.ref p) H'
theorem val_at {kvs : List (Key × V)} (nd : (kvs.map (·.1)).Nodup) {i : Nat} {k : Key} {v : V} (h : kvs[i]? = some (k, v)) : valV kvs k = some v := by
  revert i
  induction kvs with
  | nil => intro i h; cases h
  | cons p kvs ih =>
    intro i h
    rw [List.map_cons] at nd
    replace nd := List.nodup_cons.mp nd
    cases i with
    | zero =>
      cases h
      exact valV_pos rfl
    | succ i =>
      rw [List.getElem?_cons_succ] at h
      have hm : k ∈ kvs.map (·.1) := List.mem_map.mpr ⟨_, List.mem_of_getElem? h, rfl⟩
      rw [valV_neg fun z => nd.1 (z ▸ hm)]
      exact ih nd.2 h
open Classical in
/-- what a comprehension has seen of the keys -/
noncomputable def seenF (f : Kn) (kvs : List (Key × V)) (i : Nat) : Int → Option Int := fun k => if (Sum.inl k : Key) ∈ (kvs.take i).map Prod.fst then (f k).join else none
theorem seen_zero (f : Kn) (kvs : List (Key × V)) : (fun _ => none) = seenF f kvs 0 := by
  funext k
  unfold seenF
  rw [if_neg (by simp)]
theorem seen_step {f : Kn} {kvs : List (Key × V)} {i : Nat} {kk : Int} {v : V} (h : kvs[i]? = some (Sum.inl kk, v)) : seenF f kvs (i + 1) = fset (seenF f kvs i) kk (f kk).join := by
  funext k
  unfold seenF fset
  rw [take_rows kvs h, List.map_append]
  by_cases e : k = kk
  · subst e
    rw [if_pos rfl, if_pos (List.mem_append_right _ (show (Sum.inl k : Key) ∈ [(Sum.inl k, v)].map Prod.fst from List.mem_cons_self))]
  · rw [if_neg e]
    dsimp only
    have : ((Sum.inl k : Key) ∈ (kvs.take i).map Prod.fst ++ [(Sum.inl kk, v)].map Prod.fst) ↔ (Sum.inl k : Key) ∈ (kvs.take i).map Prod.fst := by
      rw [List.mem_append]
      exact ⟨fun z => z.elim id fun z => absurd (Sum.inl.inj (List.mem_singleton.mp z)) e, .inl⟩
    by_cases m : (Sum.inl k : Key) ∈ (kvs.take i).map Prod.fst
    · rw [if_pos m, if_pos (this.mpr m)]
    · rw [if_neg m, if_neg fun z => m (this.mp z)]
end
section
variable {P : Program} {w : World} {K : PySem.W.Frag} {mg : Str → Option Value} {base : Heap}
abbrev sKr : Stmt := topS 43
theorem scKr : FnScope ["known", "key"] ["known"] (defScope sKr) := ⟨rfl, rfl, rfl, by decide +kernel, rfl, by decide +kernel, by decide +kernel⟩
theorem ok_kr {f : Addr} {fd : FuncData} {kR k : Nat} (F : Fun K "known_rows" "known_rows" sKr f fd) (N : Names mg) (dRi : Own P w K mg base "rising" ["rows"] kR (spRising K)) (hRi : kR ≤ k) : FnOk P w K mg base CX0 (k + 1) f fd ["known"] (spKr K) := by
  refine F.ok scKr (fun vs H Q E h => ?_) (fun cdv A outer s H vs Q E hr h => ?_)
  · obtain ⟨D, ks, kvs, f, rfl, _⟩ := h
    rfl
  · obtain ⟨D, ks, kvs, f, rfl, hD, kd, hks, h64, q⟩ := h
    refine ⟨_, (pss_one (ps_ret (pe_own dRi hr hRi (by rfl) (pa_cons (pe_lock (pe_dc (own := [("key", 1)]) (g := gName 1) (tt := tTest (tOp rNotN (tDGet (tVar 0) (tVar 1)) (tC .non))) (tk := tVar 1) (tv := tDGet (tVar 0) (tVar 1)) rfl scKr.nd (pi_keys (pv 0)) (blkOk_by (N := ["known", "key"]) (sc := defScope sKr) (by decide +kernel)) (fun _ _ _ _ _ => pg_name (i := 1) scKr.nd rfl (Or.inl rfl)) (fun _ _ _ _ _ => pts_one (pt_cmpR op_notN1 (pe_dget (hu_of hr) (pv 0) (pv 1) (fun _ _ => rfl)) pe_non (nomark _))) (fun _ _ _ _ _ => pv 1) (fun _ _ _ _ _ => pe_dget (hu_of hr) (pv 0) (pv 1) (fun _ _ => rfl)))) pa_nil)))), ?_⟩
    refine ⟨D, .dK kvs, hD, trivial, fun od => ⟨.ref D, rfl, D, od, rfl, .inl ⟨kvs, upd_same, fun W hW => ?_⟩⟩⟩
    have hL : (upd H D (.frz od (.dK kvs))) D = some (.frz od (.dK kvs)) := upd_same
    have oth : ∀ a o, a ≠ D → H a = some o → (upd H D (.frz od (.dK kvs))) a = some o := fun a o n h => by rw [upd_ne n]; exact h
    have WD : W ≠ D := fun z => by
      subst z
      rw [hL] at hW
      cases hW
    have hW0 : H W = none := by rw [upd_ne WD] at hW; exact hW
    generalize hHL : upd H D (.frz od (.dK kvs)) = HL at hL oth hW
    have x0 : Ex HL (upd HL W (.dK [])) := Ex.new hW
    refine dc_keys (fun i G => ∃ kvw, Bar W (upd HL W (.dK [])) G ∧ G W = some (.dK kvw) ∧ DI ks kvw (seenF f kvs i)) ⟨[], Bar.refl W _, upd_same, (seen_zero f kvs) ▸ DI.nil⟩ (fun i G _ ⟨_, b, _⟩ => b _ _ WD.symm (x0 _ _ hL)) (fun i k v G hk h => ?_) (fun G h => ?_)
    · obtain ⟨kvw, b, hWG, di⟩ := h
      obtain ⟨kk, hb, e⟩ := kd.inn _ (List.mem_of_getElem? hk)
      simp only at e
      subst e
      have hv := val_at kd.nd hk
      rw [kd.val] at hv
      have hDG : G D = some (.frz od (.dK kvs)) := b _ _ WD.symm (x0 _ _ hL)
      have dg : DGet G D (.int kk) (some v) := .inl ⟨kvs, .inl kk, .inr ⟨od, hDG⟩, rfl, (val_at kd.nd hk).symm⟩
      refine g_name ⟨rfl, ?_⟩
      refine ⟨.ref D, rfl, .int kk, rfl, D, v, rfl, dg, rfl, _, rfl, ?_⟩
      have st := seen_step (f := f) hk
      cases hf : f kk with
      | none =>
        rw [hf] at hv
        cases hv
      | some o =>
        rw [hf] at hv
        cases o with
        | none =>
          cases (Option.some.inj hv : (V.non = v))
          dsimp only
          rw [if_neg (by simp)]
          refine ⟨kvw, b, hWG, ?_⟩
          rw [st, hf]
          have : fset (seenF f kvs i) kk (some (none : Option Int)).join = seenF f kvs i := by
            funext j
            unfold fset
            by_cases e : j = kk
            · subst e
              rw [if_pos rfl]
              unfold seenF
              rw [hf]
              split <;> rfl
            · rw [if_neg e]
          rw [this]
          exact di
        | some z =>
          cases (Option.some.inj hv : (V.int z = v))
          dsimp only
          rw [if_pos (by simp)]
          refine ⟨.int kk, rfl, .ref D, rfl, .int kk, rfl, D, _, rfl, dg, kvw, .inl kk, rfl, hWG, sz_lt (by have := di.len; omega), _, b.put, upd_same, ?_⟩
          rw [st, hf]
          exact di.put (hks kk (by rw [hf]; rfl))
    · obtain ⟨kvw, b, hWG, di⟩ := h
      have hDG : G D = some (.frz od (.dK kvs)) := b _ _ WD.symm (x0 _ _ hL)
      refine ⟨hDG, ?_⟩
      have ef : seenF f kvs kvs.length = fun k => (f k).join := by
        funext k
        unfold seenF
        rw [List.take_length]
        by_cases m : (Sum.inl k : Key) ∈ kvs.map Prod.fst
        · rw [if_pos m]
        · rw [if_neg m]
          cases hf : f k with
          | none => rfl
          | some o =>
            have := kd.val k
            rw [hf] at this
            exact absurd (valV_in this) m
      rw [ef] at di
      have xG : Ex H (upd G D (.dK kvs)) := fun a o h => by
        by_cases e : a = D
        · subst e
          rw [hD] at h
          rw [upd_same]
          exact h
        · rw [upd_ne e]
          refine b _ _ (fun z => ?_) (x0 _ _ (oth a o e h))
          subst z
          rw [hW0] at h
          cases h
      exact ⟨W, ks, kvw, _, rfl, by rw [upd_ne WD]; exact hWG, di, h64, fun p js H' hp x kf hj tp => q p js H' (fresh_back xG hp) (xG.trans x) kf hj tp⟩
end
end K27
namespace K27
open PySem L2 PyProof.Rows Tc Evl
/-- a taker's fields, in the order in which they are stored -/
def flds (life at' : Int) (d g pp nn : Addr) : List (Str × V) := [("own_life", .int life), ("at", .int at'), ("known", .ref d), ("given", .ref g), ("pieces", .ref pp), ("numbers", .ref nn)]
section
variable (life at' : Int) (d g pp nn : Addr)
theorem fl_own_life : (flds life at' d g pp nn).lookup ("own_life" : Str) = some (.int life) := by
  simp only [flds, List.lookup]
  rfl
theorem fl_at : (flds life at' d g pp nn).lookup ("at" : Str) = some (.int at') := by
  simp only [flds, List.lookup]
  rfl
theorem fl_known : (flds life at' d g pp nn).lookup ("known" : Str) = some (.ref d) := by
  simp only [flds, List.lookup]
  rfl
theorem fl_given : (flds life at' d g pp nn).lookup ("given" : Str) = some (.ref g) := by
  simp only [flds, List.lookup]
  rfl
theorem fl_pieces : (flds life at' d g pp nn).lookup ("pieces" : Str) = some (.ref pp) := by
  simp only [flds, List.lookup]
  rfl
theorem fl_numbers : (flds life at' d g pp nn).lookup ("numbers" : Str) = some (.ref nn) := by
  simp only [flds, List.lookup]
  rfl
theorem fl_put (z : Int) : putF "at" (.int z) (flds life at' d g pp nn) = flds life z d g pp nn := by
  unfold flds putF
  rw [if_neg (by decide +kernel)]; unfold putF
  rw [if_pos rfl]
theorem fl_no {m : Str} (h : (m == ("own_life" : Str)) = false ∧ (m == ("at" : Str)) = false ∧ (m == ("known" : Str)) = false ∧ (m == ("given" : Str)) = false ∧ (m == ("pieces" : Str)) = false ∧ (m == ("numbers" : Str)) = false) : (flds life at' d g pp nn).lookup m = none := by
  obtain ⟨h1, h2, h3, h4, h5, h6⟩ := h
  simp only [flds, List.lookup, h1, h2, h3, h4, h5, h6]
theorem no_take : (flds life at' d g pp nn).lookup ("take" : Str) = none := fl_no _ _ _ _ _ _ (by decide +kernel)
theorem no_take_group : (flds life at' d g pp nn).lookup ("take_group" : Str) = none := fl_no _ _ _ _ _ _ (by decide +kernel)
theorem no_take_mark : (flds life at' d g pp nn).lookup ("take_mark" : Str) = none := fl_no _ _ _ _ _ _ (by decide +kernel)
theorem no_copy_piece : (flds life at' d g pp nn).lookup ("copy_piece" : Str) = none := fl_no _ _ _ _ _ _ (by decide +kernel)
theorem no_give_out : (flds life at' d g pp nn).lookup ("give_out" : Str) = none := fl_no _ _ _ _ _ _ (by decide +kernel)
theorem no_ask : (flds life at' d g pp nn).lookup ("ask" : Str) = none := fl_no _ _ _ _ _ _ (by decide +kernel)
theorem no_answer : (flds life at' d g pp nn).lookup ("answer" : Str) = none := fl_no _ _ _ _ _ _ (by decide +kernel)
theorem no_give_up : (flds life at' d g pp nn).lookup ("give_up" : Str) = none := fl_no _ _ _ _ _ _ (by decide +kernel)
theorem no_place : (flds life at' d g pp nn).lookup ("place" : Str) = none := fl_no _ _ _ _ _ _ (by decide +kernel)
theorem no_life : (flds life at' d g pp nn).lookup ("life" : Str) = none := fl_no _ _ _ _ _ _ (by decide +kernel)
theorem no_rows : (flds life at' d g pp nn).lookup ("rows" : Str) = none := fl_no _ _ _ _ _ _ (by decide +kernel)
theorem no_sure : (flds life at' d g pp nn).lookup ("sure" : Str) = none := fl_no _ _ _ _ _ _ (by decide +kernel)
theorem no_events : (flds life at' d g pp nn).lookup ("events" : Str) = none := fl_no _ _ _ _ _ _ (by decide +kernel)
theorem no_saved : (flds life at' d g pp nn).lookup ("saved" : Str) = none := fl_no _ _ _ _ _ _ (by decide +kernel)
theorem no_asked : (flds life at' d g pp nn).lookup ("asked" : Str) = none := fl_no _ _ _ _ _ _ (by decide +kernel)
theorem no_asked_piece : (flds life at' d g pp nn).lookup ("asked_piece" : Str) = none := fl_no _ _ _ _ _ _ (by decide +kernel)
theorem no_begin_with : (flds life at' d g pp nn).lookup ("begin_with" : Str) = none := fl_no _ _ _ _ _ _ (by decide +kernel)
theorem no___len__ : (flds life at' d g pp nn).lookup ("__len__" : Str) = none := fl_no _ _ _ _ _ _ (by decide +kernel)
theorem no___init__ : (flds life at' d g pp nn).lookup ("__init__" : Str) = none := fl_no _ _ _ _ _ _ (by decide +kernel)
end
section
variable {P : Program} {w : World} {K : PySem.W.Frag} {mg : Str → Option Value} {base : Heap}
structure TkAt (C : Addr) (H : Hp) (p d g pp nn : Addr) (life at' : Int) (kvs : List (Key × V)) (gv : List V) : Prop where
  ob : ∃ dx, H p = some (.ins C dx (flds life at' d g pp nn))
  dc : H d = some (.dK kvs)
  gl : H g = some (.lst gv)
  pe : ∃ pkv, H pp = some (.dK pkv)
  nu : ∃ nkv, H nn = some (.dK nkv)
  n1 : d ≠ pp
  n2 : d ≠ nn
  n3 : pp ≠ nn
structure Txt (K : PySem.W.Frag) (mg : Str → Option Value) (C : Addr)
    : Prop where
  cl : Cls K C
  aL : NoAttr K C "own_life"
  aA : NoAttr K C "at"
  aK : NoAttr K C "known"
  aG : NoAttr K C "given"
  aP : NoAttr K C "pieces"
  aN : NoAttr K C "numbers"
  mgC : mg "Taker" = some (.ref C)
def spGive (C : Addr) : Sp := fun vs H Q _ => ∃ (p d g pp nn : Addr) (life at' k : Int) (kvs : List (Key × V)) (gv : List V) (wd : Str) (v : V), vs = [.ref p, .str wd, .int k] ∧ TkAt C H p d g pp nn life at' kvs gv ∧ valV kvs (.inl k) = some v ∧ gv.length ≤ 10000 ∧ ∀ t, H t = none → Q .non (upd (upd H t (.tup [.int (at' + 1), .str wd, .int k, v])) g (.lst (gv ++ [.ref t])))
/-- an event of a change -/
def evD (at' : Int) (c : PyData) : PyData := .tuple [.int (at' + 1), .str (if (chD c).2.isSome then "put" else "drop"), .int (chD c).1, match (chD c).2 with | some z => .int z | none => .none]
def Off2 (d g : Addr) (H H' : Hp) : Prop := ∀ a o, a ≠ d → a ≠ g → H a = some o → H' a = some o
def spGroup (K : PySem.W.Frag) (C : Addr) : Sp := fun vs H Q _ => ∃ (p d g pp nn q : Addr) (life at' : Int) (kvs : List (Key × V)) (f : Kn) (gv : List V) (es : List PyData) (us : List V) (cs : List PyData) (ks : List Int), vs = [.ref p, .ref q] ∧ TkAt C H p d g pp nn life at' kvs gv ∧ KD kvs f ∧ DpAll K H gv es ∧ (∀ e ∈ es, nl 1 e = true) ∧ SqT K H q us ∧ DpAll K H us cs ∧ (∀ c ∈ cs, goodCh ks c = true) ∧ (∀ k ∈ ks, 0 ≤ k ∧ k < 1000) ∧ es.length ≤ 5000 ∧ cs.length ≤ 100 ∧
  ∀ kvs' gv' H', Off2 d g H H' → TkAt C H' p d g pp nn life at' kvs' gv' → KD kvs' (learnCs f (cs.map chD)) → DpAll K H' gv' (es ++ cs.map (evD at')) → Q .non H'
theorem TkAt.off {C p d g pp nn : Addr} {H H' : Hp} {life at' : Int} {kvs kvs' : List (Key × V)} {gv gv' : List V} (S : TkAt C H p d g pp nn life at' kvs gv) (o : Off2 d g H H') (h1 : H' d = some (.dK kvs')) (h2 : H' g = some (.lst gv')) : TkAt C H' p d g pp nn life at' kvs' gv' := by
  obtain ⟨pkv, hpk⟩ := S.pe
  obtain ⟨nkv, hnk⟩ := S.nu
  have gp : pp ≠ g := fun z => by
    rw [z, S.gl] at hpk
    cases hpk
  have gn : nn ≠ g := fun z => by
    rw [z, S.gl] at hnk
    cases hnk
  obtain ⟨dx, hp⟩ := S.ob
  have pd : p ≠ d := fun z => by
    rw [z, S.dc] at hp
    cases hp
  have pg : p ≠ g := fun z => by
    rw [z, S.gl] at hp
    cases hp
  exact ⟨⟨dx, o _ _ pd pg hp⟩, h1, h2, ⟨_, o _ _ S.n1.symm gp hpk⟩, ⟨_, o _ _ S.n2.symm gn hnk⟩, S.n1, S.n2, S.n3⟩
theorem nl_ch {ks : List Int} {c : PyData} (h : goodCh ks c = true) : nl 1 c = true := by
  rcases ch_kind h with ⟨kk, rfl, mk⟩ | ⟨kk, zz, rfl, mk⟩ <;> rfl
theorem nl_ev (at' : Int) (c : PyData) : nl 1 (evD at' c) = true := by
  unfold evD
  cases (chD c).2 <;> rfl
/-- one place on -/
theorem TkAt.on {C p d g pp nn dx : Addr} {H : Hp} {life at' z : Int} {kvs : List (Key × V)} {gv : List V} (S : TkAt C H p d g pp nn life at' kvs gv) : TkAt C (upd H p (.ins C dx (flds life z d g pp nn))) p d g pp nn life z kvs gv := by
  obtain ⟨dx0, hp⟩ := S.ob
  obtain ⟨pkv, hpk⟩ := S.pe
  obtain ⟨nkv, hnk⟩ := S.nu
  have ne : ∀ {a : Addr} {o : HO}, H a = some o → (∀ dy fs, o ≠ .ins C dy fs) → a ≠ p := fun h n z => by
    rw [z, hp] at h
    exact n _ _ (Option.some.inj h).symm
  exact ⟨⟨dx, upd_same⟩, by rw [upd_ne (ne S.dc fun _ _ z => by cases z)]; exact S.dc, by rw [upd_ne (ne S.gl fun _ _ z => by cases z)]; exact S.gl, ⟨_, by rw [upd_ne (ne hpk fun _ _ z => by cases z)]; exact hpk⟩, ⟨_, by rw [upd_ne (ne hnk fun _ _ z => by cases z)]; exact hnk⟩, S.n1, S.n2, S.n3⟩
def Off3 (p d g : Addr) (H H' : Hp) : Prop := ∀ a o, a ≠ p → a ≠ d → a ≠ g → H a = some o → H' a = some o
end
section
variable {K : PySem.W.Frag} {C p dx : Addr} {fs : List (Str × V)} {H H' : Hp}
theorem obj_rd (hp : H p = some (.ins C dx fs)) (e : ∀ a o, a ≠ p → H a = some o → H' a = some o) {a : Addr} {u : HO} (n1 : ∀ dy gs, u ≠ .ins C dy gs) (h : Rd H a u) : Rd H' a u := by
  rcases h with h | ⟨o, h⟩
  · exact .inl (e _ _ (fun z => by
      rw [z, hp] at h
      exact n1 _ _ (Option.some.inj h).symm) h)
  · exact .inr ⟨o, e _ _ (fun z => by
      rw [z, hp] at h
      cases h) h⟩
mutual
theorem dp_o (hp : H p = some (.ins C dx fs)) (e : ∀ a o, a ≠ p → H a = some o → H' a = some o) : ∀ (d : PyData) (v : V), Dp K H v d → Dp K H' v d
  | _, _, .non => .non
  | _, _, .bl b => .bl b
  | _, _, .int i => .int i
  | _, _, .str x => .str x
  | _, _, .lst h r => .lst (h.imp (obj_rd hp e fun _ _ z => by cases z) id) (dps_o hp e _ _ r)
  | _, _, .tup h r => .tup (h.imp (obj_rd hp e fun _ _ z => by cases z) id) (dps_o hp e _ _ r)
theorem dps_o (hp : H p = some (.ins C dx fs)) (e : ∀ a o, a ≠ p → H a = some o → H' a = some o) : ∀ (ds : List PyData) (vs : List V), DpAll K H vs ds → DpAll K H' vs ds
  | _, _, .nil => .nil
  | _, _, .cons h r => .cons (dp_o hp e _ _ h) (dps_o hp e _ _ r)
end
end
section
variable {P : Program} {w : World} {K : PySem.W.Frag} {mg : Str → Option Value} {base : Heap}
/-- a field told -/
def spOne (C : Addr) (r : Int → Int → V) : Sp := fun vs H Q _ => ∃ (p d g pp nn : Addr) (life at' : Int) (kvs : List (Key × V)) (gv : List V), vs = [.ref p] ∧ TkAt C H p d g pp nn life at' kvs gv ∧ ∀ H', Ex H H' → Q (r life at') H'
def spRows (K : PySem.W.Frag) (C : Addr) : Sp := fun vs H Q _ => ∃ (p d g pp nn : Addr) (life at' : Int) (kvs : List (Key × V)) (gv : List V) (f : Kn) (ks : List Int), vs = [.ref p] ∧ TkAt C H p d g pp nn life at' kvs gv ∧ KD kvs f ∧ (∀ k, ((f k).join).isSome = true → k ∈ ks) ∧ ks.length ≤ 1000 ∧ ∀ t js H', H t = none → Ex H H' → KeysOf (fun k => (f k).join) js → (∀ j ∈ js, j ∈ ks) → TP K H' t (rowsOf (fun k => (f k).join) js) → Q (.ref t) H'
/-- the keys that are known, rising -/
def sureL (f : Kn) : List Int := ((List.range 1000).filter fun (i : Nat) => (f (i : Int)).isSome).map fun (i : Nat) => (i : Int)
def spSureM (K : PySem.W.Frag) (C : Addr) : Sp := fun vs H Q _ => ∃ (p d g pp nn : Addr) (life at' : Int) (kvs : List (Key × V)) (gv : List V) (f : Kn), vs = [.ref p] ∧ TkAt C H p d g pp nn life at' kvs gv ∧ KD kvs f ∧ ∀ t H', H t = none → Ex H H' → TP K H' t (spansF (sureL f)) → Q (.ref t) H'
def spEvents (K : PySem.W.Frag) (C : Addr) : Sp := fun vs H Q _ => ∃ (p d g pp nn : Addr) (life at' : Int) (kvs : List (Key × V)) (gv : List V), vs = [.ref p] ∧ TkAt C H p d g pp nn life at' kvs gv ∧ ∀ t H', H t = none → Ex H H' → H' t = some (.lst gv) → Q (.ref t) H'
theorem KD.keysL {kvs : List (Key × V)} {f : Kn} (kd : KD kvs f) : ∃ ks : List Int, kvs.map (·.1) = ks.map Sum.inl ∧ ks.length ≤ 1000 ∧ ∀ ms : List Int, ms.Perm ks → ms.Pairwise (· ≤ ·) → ms = sureL f := by
  obtain ⟨ks, hks⟩ : ∃ ks : List Int, kvs.map (·.1) = ks.map Sum.inl := by
    have h := kd.inn
    clear kd
    induction kvs with
    | nil => exact ⟨[], rfl⟩
    | cons p kvs ih =>
      obtain ⟨ks, e⟩ := ih fun q m => h q (List.mem_cons_of_mem _ m)
      obtain ⟨k, _, e'⟩ := h p List.mem_cons_self
      exact ⟨k :: ks, by rw [List.map_cons, List.map_cons, e, e']⟩
  have kl : ks.length ≤ 1000 := by
    have := kd.len
    rw [← List.length_map (f := (·.1)), hks, List.length_map] at this
    exact this
  have nd : ks.Nodup := by
    have := kd.nd
    rw [hks] at this
    rw [List.Nodup, List.pairwise_map] at this
    exact this.imp fun z e => z (by rw [e])
  refine ⟨ks, hks, kl, fun ms pm pw => ?_⟩
  have pS : (sureL f).Pairwise (· < ·) := by
    unfold sureL
    rw [List.pairwise_map]
    exact (List.pairwise_lt_range.filter _).imp fun {a b} z => by omega
  have nS : (sureL f).Nodup := pS.imp fun {a b} z e => by omega
  have mem : ∀ k, k ∈ ks ↔ k ∈ sureL f := fun k => by
    have h1 : k ∈ ks ↔ (valV kvs (.inl k)).isSome = true := by
      rw [← valV_memI, hks, List.mem_map]
      exact ⟨fun m => ⟨k, m, rfl⟩, fun ⟨j, m, e⟩ => (Sum.inl.inj e) ▸ m⟩
    rw [h1, kd.val, Option.isSome_map]
    unfold sureL
    rw [List.mem_map]
    constructor
    · intro z
      have hv : (valV kvs (.inl k)).isSome = true := by rw [kd.val, Option.isSome_map]; exact z
      obtain ⟨p, hp, e⟩ := List.mem_map.mp (valV_memI.mpr hv)
      obtain ⟨j, hj, e'⟩ := kd.inn p hp
      have ejk : k = j := Sum.inl.inj (e.symm.trans e')
      refine ⟨k.toNat, List.mem_filter.mpr ⟨List.mem_range.mpr (by omega), ?_⟩, by omega⟩
      rw [show ((k.toNat : Nat) : Int) = k by omega]
      exact z
    · rintro ⟨i, m, rfl⟩
      exact (List.mem_filter.mp m).2
  have p2 : (sureL f).Pairwise (· ≤ ·) := pS.imp fun {a b} z => by omega
  exact (pm.trans ((List.perm_ext_iff_of_nodup nd nS).mpr mem)).eq_of_pairwise (fun a b _ _ x y => by omega) pw p2
theorem TkAt.ex {C p d g pp nn : Addr} {H H' : Hp} {life at' : Int} {kvs : List (Key × V)} {gv : List V} (S : TkAt C H p d g pp nn life at' kvs gv) (x : Ex H H') : TkAt C H' p d g pp nn life at' kvs gv := S.off (fun a o _ _ z => x a o z) (x _ _ S.dc) (x _ _ S.gl)
end
section
variable {P : Program} {w : World} {K : PySem.W.Frag} {mg : Str → Option Value} {base : Heap}
def spLc (K : PySem.W.Frag) : Sp := fun vs H Q _ => ∃ (D : Addr) (kvs : List (Key × V)) (f : Kn) (v : V) (c : PyData) (ks : List Int), vs = [.ref D, v] ∧ H D = some (.dK kvs) ∧ KD kvs f ∧ Dp K H v c ∧ goodCh ks c = true ∧ (∀ k ∈ ks, 0 ≤ k ∧ k < 1000) ∧ ∀ kvs' H', Bar D H H' → H' D = some (.dK kvs') → KD kvs' (kset f (chD c).1 (chD c).2) → Q .non H'
abbrev sLc : Stmt := topS 41
theorem scLc : FnScope ["known", "change"] ["known", "change"] (defScope sLc) := ⟨rfl, rfl, rfl, by decide +kernel, rfl, by decide +kernel, by decide +kernel⟩
theorem ok_lc {f : Addr} {fd : FuncData} {k : Nat} (F : Fun K "learn_change" "learn_change" sLc f fd) : FnOk P w K mg base CX0 (k + 1) f fd ["known", "change"] (spLc K) := by
  refine F.ok scLc (fun vs H Q E h => ?_) (fun cdv A outer s H vs Q E hr h => ?_)
  · obtain ⟨D, kvs, f, v, c, ks, rfl, _⟩ := h
    rfl
  · obtain ⟨D, kvs, f, v, c, ks, rfl, hD, kd, hv, hg, hb, q⟩ := h
    refine ⟨_, (pss_one (ps_dput (hu_of hr) (pv 0) (pe_ix ix_tup (pv 1) pe_int (fun _ _ => rfl)) (pe_ifExp (pt_cmpR op_eq (pe_ix ix_tup (pv 1) pe_int (fun _ _ => rfl)) pe_str (nomark _)) (pe_ix ix_tup (pv 1) pe_int (fun _ _ => rfl)) pe_non) rfl)), ?_⟩
    have hz : kvs.length < sizeLine := sz_lt (by have := kd.len; omega)
    rcases ch_kind hg with ⟨kk, rfl, mk⟩ | ⟨kk, zz, rfl, mk⟩
    · obtain ⟨pa, u0, u1, rfl, ht, h0, h1⟩ := dpt2 hv
      cases h0
      cases h1
      refine ev_if (b := false) (et_is (et_test (ev_op (ev_ix0 (ev_var rfl) ht) ev_c (rv_eq rfl))) (by decide)) (fun e => by cases e) (fun _ => ev_c) H (Ex.refl H) _ fun H1 x1 => ⟨.ref D, rfl, ev_ix1 (ev_var rfl) (Evl.ex_t x1 ht) H1 (Ex.refl H1) _ fun H2 x2 => ⟨D, _, rfl, DPut.k (k := .inl kk) (x2 D _ (x1 D _ hD)) hz, ?_⟩⟩
      exact q _ _ (Bar.ex (x1.trans x2)).put upd_same (kd.put (o := none) (hb kk mk))
    · obtain ⟨pa, u0, u1, u2, rfl, ht, h0, h1, h2⟩ := dpt3 hv
      cases h0
      cases h1
      cases h2
      refine ev_if (b := true) (et_is (et_test (ev_op (ev_ix0 (ev_var rfl) ht) ev_c (rv_eq rfl))) (by decide)) (fun _ => ev_ix2 (ev_var rfl) ht) (fun e => by cases e) H (Ex.refl H) _ fun H1 x1 => ⟨.ref D, rfl, ev_ix1 (ev_var rfl) (Evl.ex_t x1 ht) H1 (Ex.refl H1) _ fun H2 x2 => ⟨D, _, rfl, DPut.k (k := .inl kk) (x2 D _ (x1 D _ hD)) hz, ?_⟩⟩
      exact q _ _ (Bar.ex (x1.trans x2)).put upd_same (kd.put (o := some zz) (hb kk mk))
abbrev sTaker : Stmt := topS 46
abbrev mGive : Stmt := inClass sTaker 7
theorem scGive : FnScope ["self", "word", "key"] ["self", "word", "key"] (defScope mGive) := ⟨rfl, rfl, rfl, by decide +kernel, rfl, by decide +kernel, by decide +kernel⟩
theorem ok_give {f C : Addr} {fd : FuncData} {k : Nat} (F : Fun K "give_out" "Taker.give_out" mGive f fd) (T : Txt K mg C) : FnOk P w K mg base CX0 (k + 1) f fd ["self", "word", "key"] (spGive C) := by
  refine F.ok scGive (fun vs H Q E h => ?_) (fun cdv A outer s H vs Q E hr h => ?_)
  · obtain ⟨p, d, g, pp, nn, life, at', k, kvs, gv, wd, v, rfl, _⟩ := h
    rfl
  · obtain ⟨p, d, g, pp, nn, life, at', kk, kvs, gv, wd, v, rfl, S, hv, gl, q⟩ := h
    refine ⟨_, (pss_one (ps_expr (pe_bm PySem.F.plainAttrs_list PySem.F.slot_list_append PySem.F.type_list_append mt_append (pe_fld (pv 0) rfl) (pa_cons (pe_tup (pa_cons (pe_op op_add (pe_fld (pv 0) rfl) pe_int) (pa_cons (pv 1) (pa_cons (pv 2) (pa_cons (pe_dget (hu_of hr) (pe_fld (pv 0) rfl) (pv 2) (fun _ _ => rfl)) pa_nil))))) pa_nil)))), ?_⟩
    obtain ⟨dx, hp⟩ := S.ob
    refine ⟨_, rfl, p, C, dx, _, _, rfl, hp, T.cl, T.aG, fl_given _ _ _ _ _ _, .inl ⟨rfl, gv, sq_of S.gl⟩, _, rfl, p, C, dx, _, _, rfl, hp, T.cl, T.aA, fl_at _ _ _ _ _ _, at', 1, rfl, rfl, .str wd, rfl, .int kk, rfl, _, rfl, p, C, dx, _, _, rfl, hp, T.cl, T.aK, fl_known _ _ _ _ _ _, .int kk, rfl, d, v, rfl, by rw [← hv]; exact DGet.k (k := .inl kk) S.dc, sz_of (by simp), fun t ht => ⟨g, gv, .ref t, rfl, rfl, Ex.new ht _ _ S.gl, sz_lt (by omega), q t ht⟩⟩
abbrev mGroup : Stmt := inClass sTaker 4
theorem scGroup : FnScope ["self", "changes", "change"] ["self", "changes"] (defScope mGroup) := ⟨rfl, rfl, rfl, by decide +kernel, rfl, by decide +kernel, by decide +kernel⟩
set_option maxHeartbeats 1000000 in
theorem ok_group {f C fG : Addr} {fd fdG : FuncData} {kLc kG k : Nat} (F : Fun K "take_group" "Taker.take_group" mGroup f fd) (T : Txt K mg C) (dLc : Own P w K mg base "learn_change" ["known", "change"] kLc (spLc K)) (hLc : kLc ≤ k) (FG : FnOk P w K mg base CX0 kG fG fdG ["self", "word", "key"] (spGive C)) (bG : Binds K fdG ["self", "word", "key"] []) (mG : Meth K C "give_out" fG) (hG : kG ≤ k) :
    FnOk P w K mg base CX0 (k + 1) f fd ["self", "changes"] (spGroup K C) := by
  refine F.ok scGroup (fun vs H Q E h => ?_) (fun cdv A outer s H vs Q E hr h => ?_)
  · obtain ⟨p, d, g, pp, nn, q, life, at', kvs, f, gv, es, us, cs, ks, rfl, _⟩ := h
    rfl
  · obtain ⟨p, d, g, pp, nn, q, life, at', kvs, f, gv, es, us, cs, ks, rfl, S, kd, dE, nE, hq, dU, hg, hkb, el, cl, k⟩ := h
    refine ⟨_, (pss_one (ps_for PassesOwn.never rfl (pi_tup (pv 1)) (pg_name (i := 2) scGroup.nd rfl (.inl rfl)) (pss_cons (ps_expr (pe_own dLc hr hLc (by rfl) (pa_cons (pe_fld (pv 0) rfl) (pa_cons (pv 2) pa_nil)))) (pss_one (ps_expr (pe_meth (pv 0) T.cl mG FG (hr.mono hG) bG .nil pass0 (pa_cons (pe_ix ix_tup (pv 2) pe_int (fun _ _ => rfl)) (pa_cons (pe_ix ix_tup (pv 2) pe_int (fun _ _ => rfl)) pa_nil)))))))), ?_⟩
    have ul := dps_len dU
    refine s_forT (K := K) (a := q) (xs := us) (ev_var rfl) hq (fun j σ' H' => ∃ y2 kvs' gv', σ' = [some (.ref p), some (.ref q), y2] ∧ Off2 d g H H' ∧ TkAt C H' p d g pp nn life at' kvs' gv' ∧ KD kvs' (learnCs f ((cs.take j).map chD)) ∧ DpAll K H' gv' (es ++ (cs.take j).map (evD at')) ∧ SqT K H' q us ∧ DpAll K H' us cs) (fun H1 x1 => ⟨none, kvs, gv, rfl, fun a o _ _ z => x1 a o z, S.off (fun a o _ _ z => x1 a o z) (x1 _ _ S.dc) (x1 _ _ S.gl), kd, by rw [List.take_zero, List.map_nil, List.append_nil]; exact dps_same x1 _ _ dE, Evl.ex_t x1 hq, dps_same x1 _ _ dU⟩) (fun j σ' H' _ ⟨_, _, _, _, _, _, _, _, h, _⟩ => h) (fun j x σ' H' hx p' => ?_) (fun σ' H' p' => ?_)
    · obtain ⟨y2, kvs', gv', rfl, of', S', kd', dE', hq', dU'⟩ := p'
      obtain ⟨c, hc, hxc⟩ := dps_at dU' hx
      have hgc := hg c (List.mem_of_getElem? hc)
      obtain ⟨dx, hp⟩ := S'.ob
      refine g_name ?_
      dsimp only
      refine s_seq ⟨_, rfl, p, C, dx, _, _, rfl, hp, T.cl, T.aK, fl_known _ _ _ _ _ _, _, rfl, d, kvs', _, x, c, ks, rfl, S'.dc, kd', hxc, hgc, hkb, fun kvs2 H2 b2 hd2 kd2 => ?_⟩
      dsimp only
      have gd : g ≠ d := fun z => by
        have := S'.gl
        rw [z, S'.dc] at this
        cases this
      have S2 : TkAt C H2 p d g pp nn life at' kvs2 gv' := S'.off (fun a o h1 _ z => b2 a o h1 z) hd2 (b2 _ _ gd S'.gl)
      have hxc2 := dp_bar S'.dc b2 _ _ hxc
      obtain ⟨dx2, hp2⟩ := S2.ob
      have glen : gv'.length ≤ 10000 := by
        rw [dps_len dE', List.length_append, List.length_map, List.length_take]
        omega
      have key : ∃ (pa : Addr) (wd : Str) (kk : Int) (o : Option Int) (rest : List V), x = .ref pa ∧ SqT K H2 pa (.str wd :: .int kk :: rest) ∧ chD c = (kk, o) ∧ wd = (if o.isSome then "put" else "drop" : Str) := by
        rcases ch_kind hgc with ⟨kk, rfl, mk⟩ | ⟨kk, zz, rfl, mk⟩
        · obtain ⟨pa, u0, u1, rfl, ht, h0, h1⟩ := dpt2 hxc2
          cases h0
          cases h1
          exact ⟨pa, _, kk, none, _, rfl, ht, rfl, rfl⟩
        · obtain ⟨pa, u0, u1, u2, rfl, ht, h0, h1, h2⟩ := dpt3 hxc2
          cases h0
          cases h1
          exact ⟨pa, _, kk, some zz, _, rfl, ht, rfl, rfl⟩
      obtain ⟨pa, wd, kk, o, rest, rfl, ht, ec, ew⟩ := key
      have hv : valV kvs2 (.inl kk) = some (optV o) := by
        rw [kd2.val, ec]
        show (kset _ kk o kk).map optV = _
        unfold kset
        rw [if_pos rfl]
        rfl
      refine ⟨_, rfl, p, dx2, _, rfl, hp2, no_give_out _ _ _ _ _ _, ?_⟩
      refine ea_cons (ev_ix0 (ev_var rfl) ht) (ea_cons (ev_ix1 (ev_var rfl) ht) ea_nil) H2 (Ex.refl H2) _ fun H3 x3 => ?_
      have S3 : TkAt C H3 p d g pp nn life at' kvs2 gv' := S2.off (fun a o _ _ z => x3 a o z) (x3 _ _ S2.dc) (x3 _ _ S2.gl)
      refine ⟨p, d, g, pp, nn, life, at', kk, kvs2, gv', wd, optV o, rfl, S3, hv, glen, fun t ht3 => ?_⟩
      have xt : Ex H3 (upd H3 t (.tup [.int (at' + 1), .str wd, .int kk, optV o])) := Ex.new ht3
      have ht' : (upd H3 t (.tup [.int (at' + 1), .str wd, .int kk, optV o])) t = some (.tup [.int (at' + 1), .str wd, .int kk, optV o]) := upd_same
      generalize hH4 : upd H3 t (.tup [.int (at' + 1), .str wd, .int kk, optV o]) = H4 at xt ht'
      have g4 := xt _ _ S3.gl
      have bg : Bar g H4 (upd H4 g (.lst (gv' ++ [.ref t]))) := (Bar.refl g H4).put
      have x24 := x3.trans xt
      have tk : cs.take (j + 1) = cs.take j ++ [c] := take_rows cs hc
      have dE4 : DpAll K H4 gv' (es ++ (cs.take j).map (evD at')) := dps_same x24 _ _ (dps_bar S'.dc b2 _ _ dE')
      have nlE : ∀ e ∈ es ++ (cs.take j).map (evD at'), nl 1 e = true := fun e m => by
        rcases List.mem_append.mp m with m | m
        · exact nE e m
        · obtain ⟨c', _, rfl⟩ := List.mem_map.mp m
          exact nl_ev _ _
      have dEv : Dp K H4 (.ref t) (evD at' c) := by
        unfold evD
        rw [ec, ew] at *
        cases o with
        | none => exact .tup (st_of ht') (.cons (.int _) (.cons (.str _) (.cons (.int _) (.cons .non .nil))))
        | some z => exact .tup (st_of ht') (.cons (.int _) (.cons (.str _) (.cons (.int _) (.cons (.int z) .nil))))
      have offT : Off2 d g H' (upd H4 g (.lst (gv' ++ [.ref t]))) := fun a o h1 h2 z => bg a o h2 (x24 a o (b2 a o h1 z))
      refine ⟨_, kvs2, gv' ++ [.ref t], rfl, fun a o h1 h2 z => offT a o h1 h2 (of' a o h1 h2 z), S'.off offT (bg _ _ gd.symm (xt _ _ S3.dc)) upd_same, ?_, ?_, lst_t g4 bg (Evl.ex_t x24 (bar_t S'.dc b2 hq')), ?_⟩
      · rw [tk, List.map_append, learnCs_app]
        exact kd2
      · rw [tk, List.map_append, ← List.append_assoc]
        exact dps_app (dps_each (fun e m v => dp_nl g4 bg 1 e v (nlE e m)) dE4) (.cons (dp_nl g4 bg 1 _ _ (nl_ev _ _) dEv) .nil)
      · exact dps_each (fun e m v => dp_nl g4 bg 1 e v (nl_ch (hg e m))) (dps_same x24 _ _ (dps_bar S'.dc b2 _ _ dU'))
    · obtain ⟨y2, kvs', gv', rfl, of', S', kd', dE', _, _⟩ := p'
      rw [ul, List.take_length] at kd' dE'
      exact k kvs' gv' H' of' S' kd' dE'
abbrev mLife : Stmt := inClass sTaker 11
theorem scLife : FnScope ["self"] ["self"] (defScope mLife) := ⟨rfl, rfl, rfl, by decide +kernel, rfl, by decide +kernel, by decide +kernel⟩
theorem ok_life {f C : Addr} {fd : FuncData} {k : Nat} (F : Fun K "life" "Taker.life" mLife f fd) (T : Txt K mg C) : FnOk P w K mg base CX0 (k + 1) f fd ["self"] (spOne C fun life _ => .int life) := by
  refine F.ok scLife (fun vs H Q E h => ?_) (fun cdv A outer s H vs Q E hr h => ?_)
  · obtain ⟨p, d, g, pp, nn, life, at', kvs, gv, rfl, _⟩ := h
    rfl
  · obtain ⟨p, d, g, pp, nn, life, at', kvs, gv, rfl, S, q⟩ := h
    refine ⟨_, (pss_one (ps_ret (pe_fld (pv 0) rfl))), ?_⟩
    obtain ⟨dx, hp⟩ := S.ob
    exact ⟨_, rfl, p, C, dx, _, _, rfl, hp, T.cl, T.aL, fl_own_life _ _ _ _ _ _, q H (Ex.refl H)⟩
abbrev mPlace : Stmt := inClass sTaker 12
theorem scPlace : FnScope ["self"] ["self"] (defScope mPlace) := ⟨rfl, rfl, rfl, by decide +kernel, rfl, by decide +kernel, by decide +kernel⟩
theorem ok_place {f C : Addr} {fd : FuncData} {k : Nat} (F : Fun K "place" "Taker.place" mPlace f fd) (T : Txt K mg C) : FnOk P w K mg base CX0 (k + 1) f fd ["self"] (spOne C fun _ a => .int a) := by
  refine F.ok scPlace (fun vs H Q E h => ?_) (fun cdv A outer s H vs Q E hr h => ?_)
  · obtain ⟨p, d, g, pp, nn, life, at', kvs, gv, rfl, _⟩ := h
    rfl
  · obtain ⟨p, d, g, pp, nn, life, at', kvs, gv, rfl, S, q⟩ := h
    refine ⟨_, (pss_one (ps_ret (pe_fld (pv 0) rfl))), ?_⟩
    obtain ⟨dx, hp⟩ := S.ob
    exact ⟨_, rfl, p, C, dx, _, _, rfl, hp, T.cl, T.aA, fl_at _ _ _ _ _ _, q H (Ex.refl H)⟩
abbrev mSure : Stmt := inClass sTaker 14
theorem scSure : FnScope ["self"] ["self"] (defScope mSure) := ⟨rfl, rfl, rfl, by decide +kernel, rfl, by decide +kernel, by decide +kernel⟩
theorem ok_sureM {f C : Addr} {fd : FuncData} {kSo k : Nat} (F : Fun K "sure" "Taker.sure" mSure f fd) (T : Txt K mg C) (N : Names mg) (dSo : Own P w K mg base "stretches_of" ["keys"] kSo (spSo K)) (hSo : kSo ≤ k) : FnOk P w K mg base CX0 (k + 1) f fd ["self"] (spSureM K C) := by
  refine F.ok scSure (fun vs H Q E h => ?_) (fun cdv A outer s H vs Q E hr h => ?_)
  · obtain ⟨p, d, g, pp, nn, life, at', kvs, gv, f, rfl, _⟩ := h
    rfl
  · obtain ⟨p, d, g, pp, nn, life, at', kvs, gv, f, rfl, S, kd, q⟩ := h
    refine ⟨_, (pss_one (ps_ret (pe_own dSo hr hSo (by rfl) (pa_cons (pe_callB (cr_sortedDA rfl) (by rfl) N.sorted boot_sorted (pa_cons (pe_fld (pv 0) rfl) pa_nil)) pa_nil)))), ?_⟩
    obtain ⟨dx, hp⟩ := S.ob
    obtain ⟨ks, hks, kl, uniq⟩ := kd.keysL
    refine ⟨_, rfl, p, C, dx, _, _, rfl, hp, T.cl, T.aK, fl_known _ _ _ _ _ _, d, kvs, ks, rfl, .inl S.dc, hks, fun ms l pm pw hl => ⟨l, ms, rfl, upd_same, by rw [pm.length_eq]; exact kl, fun t H' ht x' tp => ?_⟩⟩
    rw [uniq ms pm pw] at tp
    exact q t H' (fresh_back (Ex.new hl) ht) ((Ex.new hl).trans x') tp
abbrev mEvents : Stmt := inClass sTaker 16
theorem scEvents : FnScope ["self"] ["self"] (defScope mEvents) := ⟨rfl, rfl, rfl, by decide +kernel, rfl, by decide +kernel, by decide +kernel⟩
theorem ok_events {f C : Addr} {fd : FuncData} {k : Nat} (F : Fun K "events" "Taker.events" mEvents f fd) (T : Txt K mg C) (N : Names mg) : FnOk P w K mg base CX0 (k + 1) f fd ["self"] (spEvents K C) := by
  refine F.ok scEvents (fun vs H Q E h => ?_) (fun cdv A outer s H vs Q E hr h => ?_)
  · obtain ⟨p, d, g, pp, nn, life, at', kvs, gv, rfl, _⟩ := h
    rfl
  · obtain ⟨p, d, g, pp, nn, life, at', kvs, gv, rfl, S, q⟩ := h
    refine ⟨_, (pss_one (ps_ret (pe_callTy call_list_of (by rfl) N.list boot_list (pa_cons (pe_fld (pv 0) rfl) pa_nil)))), ?_⟩
    obtain ⟨dx, hp⟩ := S.ob
    exact ⟨_, rfl, p, C, dx, _, _, rfl, hp, T.cl, T.aG, fl_given _ _ _ _ _ _, g, gv, rfl, .inl (sq_of S.gl), fun l hl => q l _ hl (Ex.new hl) upd_same⟩
end
end K27
namespace K27
open PySem L2 PyProof.Rows Tc Evl
section
variable {P : Program} {w : World} {K : PySem.W.Frag} {mg : Str → Option Value} {base : Heap}
def pfl (t : Addr) (uw : Bool) (cv : V) : List (Str × V) := [("stretch", .ref t), ("under_way", .bl uw), ("came", cv)]
theorem pl_stretch (t : Addr) (uw : Bool) (cv : V) : (pfl t uw cv).lookup ("stretch" : Str) = some (.ref t) := by
  simp only [pfl, List.lookup]
  rfl
theorem pl_way (t : Addr) (uw : Bool) (cv : V) : (pfl t uw cv).lookup ("under_way" : Str) = some (.bl uw) := by
  simp only [pfl, List.lookup]
  rfl
theorem pl_came (t : Addr) (uw : Bool) (cv : V) : (pfl t uw cv).lookup ("came" : Str) = some cv := by
  simp only [pfl, List.lookup]
  rfl
theorem pfl_made (t : Addr) : putF "came" .non (putF "under_way" (.bl false) (putF "stretch" (.ref t) [])) = pfl t false .non := by
  simp only [pfl, putF]
  rfl
theorem pfl_came (t : Addr) (uw : Bool) (cv v : V) : putF "came" v (pfl t uw cv) = pfl t uw v := by
  simp only [pfl, putF]
  rfl
theorem pfl_way (t : Addr) (uw u : Bool) (cv : V) : putF "under_way" (.bl u) (pfl t uw cv) = pfl t u cv := by
  simp only [pfl, putF]
  rfl
structure TxtP (K : PySem.W.Frag) (mg : Str → Option Value) (C : Addr)
    : Prop where
  cl : Cls K C
  nS : NoAttr K C "stretch"
  nU : NoAttr K C "under_way"
  nC : NoAttr K C "came"
  mgP : mg "Piece" = some (.ref C)
def PcAt (Cp : Addr) (H : Hp) (q t : Addr) (uw : Bool) (cv : V) : Prop := ∃ dx, H q = some (.ins Cp dx (pfl t uw cv))
end
/-- a piece -/
structure Pce where
  num : Int
  lo : Int
  hi : Int
  uw : Bool
  came : Option (List (Int × Int))
/-- a taker -/
structure TM where
  life : Int
  at' : Int
  f : Kn
  ev : List PyData
  pcs : List Pce
  nums : List Int
def cameV (K : PySem.W.Frag) (H : Hp) (cv : V) : Option (List (Int × Int)) → Prop
  | none => cv = .non
  | some rs => Dp K H cv (rowsD rs)
/-- a piece that is one -/
structure PcOk (x : Pce) : Prop where
  a : 0 ≤ x.lo
  b : x.lo < x.hi
  c : x.hi ≤ 1000
  r : ∀ rs, x.came = some rs → (∀ r ∈ rs, x.lo ≤ r.1 ∧ r.1 < x.hi ∧ 0 ≤ r.2 ∧ r.2 < 1000) ∧ rs.Pairwise fun a b => a.1 < b.1
/-- a piece at q -/
def PcA (K : PySem.W.Frag) (Cp : Addr) (H : Hp) (q : Addr) (x : Pce) : Prop := ∃ t cv, PcAt Cp H q t x.uw cv ∧ SqT K H t [.int x.lo, .int x.hi] ∧ cameV K H cv x.came
theorem nl_rows (rs : List (Int × Int)) : nl 2 (rowsD rs) = true := by
  refine List.all_eq_true.mpr fun d md => ?_
  obtain ⟨r, _, rfl⟩ := List.mem_map.mp md
  rfl
theorem cameV.kt {K : PySem.W.Frag} {H H' : Hp} {cv : V} {o : Option (List (Int × Int))} (h : cameV K H cv o) (kt : Kt H H') : cameV K H' cv o := by
  cases o with
  | none => exact h
  | some rs => exact kt.dp 2 _ _ (nl_rows rs) h
theorem PcA.keep {K : PySem.W.Frag} {Cp : Addr} {H H' : Hp} {q : Addr} {x : Pce} (h : PcA K Cp H q x) (e : ∀ o, H q = some o → H' q = some o) (kt : Kt H H') : PcA K Cp H' q x := by
  obtain ⟨t, cv, ⟨dx, h1⟩, h2, h3⟩ := h
  exact ⟨t, cv, ⟨dx, e _ h1⟩, kt.t h2, h3.kt kt⟩
def pcV (l : List (Pce × Addr)) : List (Key × V) := l.map fun t => (.inl t.1.num, .ref t.2)
def nuV (ns : List Int) : List (Key × V) := ns.map fun n => (.inl n, .bl true)
/-- what the taker holds as its own -/
def fpT (p d g pp nn : Addr) (l : List (Pce × Addr)) : List Addr := p :: d :: g :: pp :: nn :: l.map (·.2)
structure TkB (K : PySem.W.Frag) (C Cp : Addr) (H : Hp) (p d g pp nn : Addr) (kvs : List (Key × V)) (gv : List V) (l : List (Pce × Addr)) (m : TM) : Prop where
  at' : TkAt C H p d g pp nn m.life m.at' kvs gv
  kd : KD kvs m.f
  ev : DpAll K H gv m.ev
  eg : ∀ e ∈ m.ev, nl 1 e = true
  pp' : H pp = some (.dK (pcV l))
  nn' : H nn = some (.dK (nuV m.nums))
  pl : l.map (·.1) = m.pcs
  pd : (m.pcs.map (·.num)).Nodup
  pn : ∀ x ∈ m.pcs, x.num ∈ m.nums
  po : ∀ x ∈ m.pcs, PcOk x
  pc : ∀ t ∈ l, PcA K Cp H t.2 t.1
  nd : (fpT p d g pp nn l).Nodup
/-- a taker at p that holds just X -/
def TkM (K : PySem.W.Frag) (C Cp : Addr) (H : Hp) (p : Addr) (m : TM) (X : Addr → Prop) : Prop := ∃ d g pp nn kvs gv l, TkB K C Cp H p d g pp nn kvs gv l m ∧ ∀ a, X a ↔ a ∈ fpT p d g pp nn l
/-- what stands behind a call: the taker is m' now, all else stays -/
def TOut (K : PySem.W.Frag) (C Cp : Addr) (H : Hp) (p : Addr) (X : Addr → Prop) (m' : TM) (H' : Hp) : Prop := ∃ X', TkM K C Cp H' p m' X' ∧ Off X H H' ∧ ∀ a, X' a → X a ∨ H a = none
section
variable {K : PySem.W.Frag} {C Cp : Addr} {H H' : Hp} {p d g pp nn : Addr} {kvs : List (Key × V)} {gv : List V} {l : List (Pce × Addr)} {m : TM} {X : Addr → Prop}
theorem ft_p : p ∈ fpT p d g pp nn l := List.mem_cons_self
theorem ft_d : d ∈ fpT p d g pp nn l := List.mem_cons_of_mem _ List.mem_cons_self
theorem ft_g : g ∈ fpT p d g pp nn l := List.mem_cons_of_mem _ (List.mem_cons_of_mem _ List.mem_cons_self)
theorem ft_pp : pp ∈ fpT p d g pp nn l := List.mem_cons_of_mem _ (List.mem_cons_of_mem _ (List.mem_cons_of_mem _ List.mem_cons_self))
theorem ft_nn : nn ∈ fpT p d g pp nn l := List.mem_cons_of_mem _ (List.mem_cons_of_mem _ (List.mem_cons_of_mem _ (List.mem_cons_of_mem _ List.mem_cons_self)))
theorem ft_q {t : Pce × Addr} (h : t ∈ l) : t.2 ∈ fpT p d g pp nn l := List.mem_cons_of_mem _ (List.mem_cons_of_mem _ (List.mem_cons_of_mem _ (List.mem_cons_of_mem _ (List.mem_cons_of_mem _ (List.mem_map.mpr ⟨t, h, rfl⟩)))))
theorem TkB.noT (S : TkB K C Cp H p d g pp nn kvs gv l m) : ∀ a ∈ fpT p d g pp nn l, NoT H a := fun a ha => by
  obtain ⟨dx, hp⟩ := S.at'.ob
  unfold fpT at ha
  rcases List.mem_cons.mp ha with rfl | ha
  · exact ⟨_, hp, (fun xs z => by cases z), fun o xs z => by cases z⟩
  rcases List.mem_cons.mp ha with rfl | ha
  · exact ⟨_, S.at'.dc, (fun xs z => by cases z), fun o xs z => by cases z⟩
  rcases List.mem_cons.mp ha with rfl | ha
  · exact ⟨_, S.at'.gl, (fun xs z => by cases z), fun o xs z => by cases z⟩
  rcases List.mem_cons.mp ha with rfl | ha
  · exact ⟨_, S.pp', (fun xs z => by cases z), fun o xs z => by cases z⟩
  rcases List.mem_cons.mp ha with rfl | ha
  · exact ⟨_, S.nn', (fun xs z => by cases z), fun o xs z => by cases z⟩
  obtain ⟨t, mt, rfl⟩ := List.mem_map.mp ha
  obtain ⟨t', cv, ⟨dx, h1⟩, _⟩ := S.pc t mt
  exact ⟨_, h1, (fun xs z => by cases z), fun o xs z => by cases z⟩
/-- the five are apart, and from the pieces -/
structure TkN (p d g pp nn : Addr) (l : List (Pce × Addr)) : Prop where
  a1 : p ≠ d
  a2 : p ≠ g
  a3 : p ≠ pp
  a4 : p ≠ nn
  b1 : d ≠ g
  b2 : d ≠ pp
  b3 : d ≠ nn
  c1 : g ≠ pp
  c2 : g ≠ nn
  e1 : pp ≠ nn
  q : ∀ t ∈ l, t.2 ≠ p ∧ t.2 ≠ d ∧ t.2 ≠ g ∧ t.2 ≠ pp ∧ t.2 ≠ nn
  lq : (l.map (·.2)).Nodup
theorem fpT_n (h : (fpT p d g pp nn l).Nodup) : TkN p d g pp nn l := by
  unfold fpT at h
  simp only [List.nodup_cons, List.mem_cons, not_or] at h
  obtain ⟨⟨h1, h2, h3, h4, h5⟩, ⟨h6, h7, h8, h9⟩, ⟨h10, h11, h12⟩, ⟨h13, h14⟩, h15, h16⟩ := h
  exact ⟨h1, h2, h3, h4, h6, h7, h8, h10, h11, h13, fun t mt => ⟨fun e => h5 (List.mem_map.mpr ⟨t, mt, e⟩), fun e => h9 (List.mem_map.mpr ⟨t, mt, e⟩), fun e => h12 (List.mem_map.mpr ⟨t, mt, e⟩), fun e => h14 (List.mem_map.mpr ⟨t, mt, e⟩), fun e => h15 (List.mem_map.mpr ⟨t, mt, e⟩)⟩, h16⟩
theorem TkB.keep (S : TkB K C Cp H p d g pp nn kvs gv l m) (e : ∀ a o, a ∈ fpT p d g pp nn l → H a = some o → H' a = some o) (kt : Kt H H') : TkB K C Cp H' p d g pp nn kvs gv l m := by
  obtain ⟨dx, hp⟩ := S.at'.ob
  exact ⟨⟨⟨dx, e _ _ ft_p hp⟩, e _ _ ft_d S.at'.dc, e _ _ ft_g S.at'.gl, ⟨_, e _ _ ft_pp S.pp'⟩, ⟨_, e _ _ ft_nn S.nn'⟩, S.at'.n1, S.at'.n2, S.at'.n3⟩, S.kd, kt.dps S.eg S.ev, S.eg, e _ _ ft_pp S.pp', e _ _ ft_nn S.nn', S.pl, S.pd, S.pn, S.po, fun t mt => (S.pc t mt).keep (fun o h => e _ _ (ft_q mt) h) kt, S.nd⟩
theorem TkM.keep (S : TkM K C Cp H p m X) (e : ∀ a o, X a → H a = some o → H' a = some o) (kt : Kt H H') : TkM K C Cp H' p m X := by
  obtain ⟨d, g, pp, nn, kvs, gv, l, B, fx⟩ := S
  exact ⟨d, g, pp, nn, kvs, gv, l, B.keep (fun a o h => e a o ((fx a).mpr h)) kt, fx⟩
theorem TkM.ex (S : TkM K C Cp H p m X) (x : Ex H H') : TkM K C Cp H' p m X := S.keep (fun a o _ h => x a o h) (Kt.ex x)
theorem TkM.noT (S : TkM K C Cp H p m X) : ∀ a, X a → NoT H a := fun a h => by
  obtain ⟨d, g, pp, nn, kvs, gv, l, B, fx⟩ := S
  exact B.noT a ((fx a).mp h)
theorem TkM.fr {b : Addr} (S : TkM K C Cp H p m X) (hB : Bag H b) (f : Tc.Fr b H H') (n : ¬ X b) : TkM K C Cp H' p m X := S.keep (fun a o h z => f.at z fun y => n (y ▸ h)) (Kt.fr hB f)
theorem TOut.refl (S : TkM K C Cp H p m X) : TOut K C Cp H p X m H := ⟨X, S, fun _ _ _ h => h, fun _ h => .inl h⟩
theorem TOut.pre {H1 : Hp} (x : Ex H H1) (h : TOut K C Cp H1 p X m H') : TOut K C Cp H p X m H' := by
  obtain ⟨X', S, o, n⟩ := h
  exact ⟨X', S, (Off.ex x).trans o, fun a ha => (n a ha).imp id fun z => fresh_back x z⟩
theorem TOut.post {H1 : Hp} (h : TOut K C Cp H p X m H1) (x : Ex H1 H') : TOut K C Cp H p X m H' := by
  obtain ⟨X', S, o, n⟩ := h
  exact ⟨X', S.ex x, o.trans (Off.ex x), n⟩
/-- the object, what is known and what was given out are changed -/
theorem TkB.chg {kvs' : List (Key × V)} {gv' : List V} {a' : Int} {f' : Kn} {ev' : List PyData} (S : TkB K C Cp H p d g pp nn kvs gv l m) (o : Off3 p d g H H') (T : TkAt C H' p d g pp nn m.life a' kvs' gv') (kd : KD kvs' f') (ev : DpAll K H' gv' ev') (eg : ∀ e ∈ ev', nl 1 e = true) : TkB K C Cp H' p d g pp nn kvs' gv' l { m with at' := a', f := f', ev := ev' } := by
  have N := fpT_n S.nd
  have kt : Kt H H' := Kt.but (fun a => a = p ∨ a = d ∨ a = g) (fun a z => by
    rcases z with rfl | rfl | rfl
    · exact S.noT _ ft_p
    · exact S.noT _ ft_d
    · exact S.noT _ ft_g) fun a u z h => o a u (fun e => z (.inl e)) (fun e => z (.inr (.inl e))) (fun e => z (.inr (.inr e))) h
  refine ⟨T, kd, ev, eg, o _ _ N.a3.symm N.b2.symm N.c1.symm S.pp', o _ _ N.a4.symm N.b3.symm N.c2.symm S.nn', S.pl, S.pd, S.pn, S.po, fun t mt => (S.pc t mt).keep (fun u h => ?_) kt, S.nd⟩
  have := N.q t mt
  exact o _ _ this.1 this.2.1 this.2.2.1 h
theorem TkM.out {kvs' : List (Key × V)} {gv' : List V} {a' : Int} {f' : Kn} {ev' : List PyData} (S : TkB K C Cp H p d g pp nn kvs gv l m) (fx : ∀ a, X a ↔ a ∈ fpT p d g pp nn l) (o : Off3 p d g H H') (T : TkAt C H' p d g pp nn m.life a' kvs' gv') (kd : KD kvs' f') (ev : DpAll K H' gv' ev') (eg : ∀ e ∈ ev', nl 1 e = true) : TOut K C Cp H p X { m with at' := a', f := f', ev := ev' } H' :=
  ⟨X, ⟨d, g, pp, nn, kvs', gv', l, S.chg o T kd ev eg, fx⟩, fun a u n h => o a u (fun e => n ((fx a).mpr (e ▸ ft_p))) (fun e => n ((fx a).mpr (e ▸ ft_d))) (fun e => n ((fx a).mpr (e ▸ ft_g))) h, fun a h => .inl h⟩
/-- the piece of a number -/
def pcOf (m : TM) (n : Int) : Option Pce := m.pcs.find? fun x => decide (x.num = n)
theorem pcV_look : ∀ (l : List (Pce × Addr)) (n : Int), ((l.map (·.1)).find? (fun x => decide (x.num = n)) = none ∧ valV (pcV l) (.inl n) = none) ∨ ∃ t ∈ l, t.1.num = n ∧ (l.map (·.1)).find? (fun x => decide (x.num = n)) = some t.1 ∧ valV (pcV l) (.inl n) = some (.ref t.2)
  | [], n => .inl ⟨rfl, rfl⟩
  | t :: l, n => by
    by_cases e : t.1.num = n
    · refine .inr ⟨t, List.mem_cons_self, e, ?_, ?_⟩
      · simp [List.find?_cons, e]
      · show valV ((.inl t.1.num, .ref t.2) :: pcV l) (.inl n) = _
        rw [e]
        exact valV_pos rfl
    · have h1 : ((t :: l).map (·.1)).find? (fun x => decide (x.num = n)) = (l.map (·.1)).find? (fun x => decide (x.num = n)) := by
        simp [List.find?_cons, e]
      have h2 : valV (pcV (t :: l)) (.inl n) = valV (pcV l) (.inl n) := by
        show valV ((.inl t.1.num, .ref t.2) :: pcV l) (.inl n) = _
        exact valV_neg fun z => e (Sum.inl.inj z)
      rw [h1, h2]
      rcases pcV_look l n with h | ⟨t', mt, h⟩
      · exact .inl h
      · exact .inr ⟨t', List.mem_cons_of_mem _ mt, h⟩
theorem pcV_val (S : TkB K C Cp H p d g pp nn kvs gv l m) (n : Int) : (pcOf m n = none ∧ valV (pcV l) (.inl n) = none) ∨ ∃ t ∈ l, t.1.num = n ∧ pcOf m n = some t.1 ∧ valV (pcV l) (.inl n) = some (.ref t.2) := by
  unfold pcOf
  rw [← S.pl]
  exact pcV_look l n
theorem nuV_val : ∀ (ns : List Int) (n : Int), valV (nuV ns) (.inl n) = if n ∈ ns then some (.bl true) else none
  | [], n => by rw [if_neg (by simp)]; rfl
  | k :: ns, n => by
    by_cases e : k = n
    · rw [if_pos (by rw [e]; exact List.mem_cons_self)]
      show valV ((.inl k, .bl true) :: nuV ns) (.inl n) = _
      rw [e]
      exact valV_pos rfl
    · have h2 : valV (nuV (k :: ns)) (.inl n) = valV (nuV ns) (.inl n) := by
        show valV ((.inl k, .bl true) :: nuV ns) (.inl n) = _
        exact valV_neg fun z => e (Sum.inl.inj z)
      rw [h2, nuV_val ns n]
      by_cases f : n ∈ ns
      · rw [if_pos f, if_pos (List.mem_cons_of_mem _ f)]
      · rw [if_neg f, if_neg fun z => by
          rcases List.mem_cons.mp z with z | z
          · exact e z.symm
          · exact f z]
end
end K27
/-! a house: what one store does to it -/
namespace Tc
open PySem L2 Evl
section
variable {K : PySem.W.Frag} {C R : Addr} {H H' : Hp} {p dW dK dL dR : Addr} {kvs : List (Key × V)} {kept : List V} {l : List (Rdg × Addr × Addr)} {m : HM} {X : Addr → Prop}
structure Apart (p dW dK dL dR : Addr) (l : List (Rdg × Addr × Addr)) : Prop where
  pW : p ≠ dW
  pK : p ≠ dK
  pL : p ≠ dL
  pR : p ≠ dR
  WK : dW ≠ dK
  WL : dW ≠ dL
  WR : dW ≠ dR
  KL : dK ≠ dL
  KR : dK ≠ dR
  LR : dL ≠ dR
  r1 : ∀ t ∈ l, t.2.1 ≠ p ∧ t.2.1 ≠ dW ∧ t.2.1 ≠ dK ∧ t.2.1 ≠ dL ∧ t.2.1 ≠ dR
  r2 : ∀ t ∈ l, t.2.2 ≠ p ∧ t.2.2 ≠ dW ∧ t.2.2 ≠ dK ∧ t.2.2 ≠ dL ∧ t.2.2 ≠ dR
theorem HsB.apart (S : HsB K C R H p dW dK dL dR kvs kept l m) : Apart p dW dK dL dR l := by
  have nd := S.nd
  unfold fpL at nd
  obtain ⟨a1, nd⟩ := List.nodup_cons.mp nd
  obtain ⟨a2, nd⟩ := List.nodup_cons.mp nd
  obtain ⟨a3, nd⟩ := List.nodup_cons.mp nd
  obtain ⟨a4, nd⟩ := List.nodup_cons.mp nd
  obtain ⟨a5, nd⟩ := List.nodup_cons.mp nd
  simp only [List.mem_cons, not_or] at a1 a2 a3 a4
  have inl : ∀ t ∈ l, t.2.1 ∈ l.flatMap (fun t => [t.2.1, t.2.2]) ∧ t.2.2 ∈ l.flatMap (fun t => [t.2.1, t.2.2]) := fun t mt => ⟨List.mem_flatMap.mpr ⟨t, mt, List.mem_cons_self⟩, List.mem_flatMap.mpr ⟨t, mt, List.mem_cons_of_mem _ List.mem_cons_self⟩⟩
  refine ⟨a1.1, a1.2.1, a1.2.2.1, a1.2.2.2.1, a2.1, a2.2.1, a2.2.2.1, a3.1, a3.2.1, a4.1, fun t mt => ?_, fun t mt => ?_⟩
  · have h := (inl t mt).1
    exact ⟨fun z => a1.2.2.2.2 (z ▸ h), fun z => a2.2.2.2 (z ▸ h), fun z => a3.2.2 (z ▸ h), fun z => a4.2 (z ▸ h), fun z => a5 (z ▸ h)⟩
  · have h := (inl t mt).2
    exact ⟨fun z => a1.2.2.2.2 (z ▸ h), fun z => a2.2.2.2 (z ▸ h), fun z => a3.2.2 (z ▸ h), fun z => a4.2 (z ▸ h), fun z => a5 (z ▸ h)⟩
/-- one object of it is stored anew: tuples stay -/
theorem kt_upd {a : Addr} {o : HO} (h : NoT H a) : Kt H (upd H a o) := Kt.but (fun x => x = a) (fun x e => e ▸ h) fun x u n e => by rw [upd_ne n]; exact e
theorem rds_keep {a : Addr} {o : HO} (h : NoT H a) (rd : ∀ t ∈ l, RdAt K R H t.2.1 t.2.2 t.1) (n : ∀ t ∈ l, t.2.1 ≠ a ∧ t.2.2 ≠ a) : ∀ t ∈ l, RdAt K R (upd H a o) t.2.1 t.2.2 t.1 := fun t mt =>
  (rd t mt).keep (fun u e => by rw [upd_ne (n t mt).1]; exact e) (fun u e => by rw [upd_ne (n t mt).2]; exact e) (kt_upd h)
/-- the log made longer -/
theorem HsB.append {v : V} {d : PyData} (S : HsB K C R H p dW dK dL dR kvs kept l m) (hv : Dp K H v d) (hg : goodEn allKs d = true) : HsB K C R (upd H dK (.lst (kept ++ [v]))) p dW dK dL dR kvs (kept ++ [v]) l { m with log := m.log ++ [d] } := by
  have A := S.apart
  have nt := S.noT _ fp_K
  have kt : Kt H (upd H dK (.lst (kept ++ [v]))) := kt_upd nt
  obtain ⟨dx, hp⟩ := S.at'.ob
  refine ⟨⟨⟨dx, by rw [upd_ne A.pK]; exact hp⟩, by rw [upd_ne A.WK]; exact S.at'.wo, upd_same, by rw [upd_ne A.KL.symm]; exact S.at'.li, by rw [upd_ne A.KR.symm]; exact S.at'.ru, S.at'.n1, S.at'.n2, S.at'.n3⟩, S.di, dps_app (kt.dps (fun d m => nl_en (S.go d m)) S.lo) (.cons (kt.dp 3 _ _ (nl_en hg) hv) .nil), fun e me => ?_, S.lv, S.lb, S.rn, S.rp, S.rb, S.rk, rds_keep nt S.rd fun t mt => ⟨(A.r1 t mt).2.2.1, (A.r2 t mt).2.2.1⟩, S.nd⟩
  rcases List.mem_append.mp me with h | h
  · exact S.go e h
  · rw [List.mem_singleton.mp h]
    exact hg
/-- the lives -/
theorem HsB.lives {l2 : List (Int × Option Int)} (S : HsB K C R H p dW dK dL dR kvs kept l m) (lv : l2.Pairwise fun x y => x.1 < y.1) (lb : ∀ r ∈ l2, 1 ≤ r.1 ∧ r.1 ≤ m.lg) : HsB K C R (upd H dL (.dK (lvV l2))) p dW dK dL dR kvs kept l { m with liv := l2 } := by
  have A := S.apart
  have nt := S.noT _ fp_L
  have kt : Kt H (upd H dL (.dK (lvV l2))) := kt_upd nt
  obtain ⟨dx, hp⟩ := S.at'.ob
  exact ⟨⟨⟨dx, by rw [upd_ne A.pL]; exact hp⟩, by rw [upd_ne A.WL]; exact S.at'.wo, by rw [upd_ne A.KL]; exact S.at'.ke, upd_same, by rw [upd_ne A.LR.symm]; exact S.at'.ru, S.at'.n1, S.at'.n2, S.at'.n3⟩, S.di, kt.dps (fun d m => nl_en (S.go d m)) S.lo, S.go, lv, lb, S.rn, S.rp, S.rb, S.rk, rds_keep nt S.rd fun t mt => ⟨(A.r1 t mt).2.2.2.1, (A.r2 t mt).2.2.2.1⟩, S.nd⟩
/-- the counters -/
theorem HsB.counts {dx : Addr} {lg bg : Nat} (S : HsB K C R H p dW dK dL dR kvs kept l m) (h1 : m.lg ≤ lg) (h2 : m.bg ≤ bg) : HsB K C R (upd H p (.ins C dx (hfl dW dK m.fk lg bg dL dR))) p dW dK dL dR kvs kept l { m with lg := lg, bg := bg } := by
  have A := S.apart
  have nt := S.noT _ fp_p
  have kt : Kt H (upd H p (.ins C dx (hfl dW dK m.fk lg bg dL dR))) := kt_upd nt
  exact ⟨⟨⟨dx, upd_same⟩, by rw [upd_ne A.pW.symm]; exact S.at'.wo, by rw [upd_ne A.pK.symm]; exact S.at'.ke, by rw [upd_ne A.pL.symm]; exact S.at'.li, by rw [upd_ne A.pR.symm]; exact S.at'.ru, S.at'.n1, S.at'.n2, S.at'.n3⟩, S.di, kt.dps (fun d m => nl_en (S.go d m)) S.lo, S.go, S.lv, (fun r mr => ⟨(S.lb r mr).1, by have := (S.lb r mr).2; show r.1 ≤ (lg : Int); omega⟩), S.rn, S.rp, (fun x mx => ⟨(S.rb x mx).1, by have := (S.rb x mx).2; show x.num < (bg : Int); omega⟩), S.rk, rds_keep nt S.rd fun t mt => ⟨(A.r1 t mt).1, (A.r2 t mt).1⟩, S.nd⟩
/-- one more reading -/
theorem HsB.rput {t : Rdg × Addr × Addr} (S : HsB K C R H p dW dK dL dR kvs kept l m) (hr : RdAt K R H t.2.1 t.2.2 t.1) (n1 : t.2.1 ∉ fpL p dW dK dL dR l) (n2 : t.2.2 ∉ fpL p dW dK dL dR l) (n3 : t.2.1 ≠ t.2.2) (h1 : ∀ x ∈ m.run, x.num < t.1.num) (h2 : 0 ≤ t.1.num ∧ t.1.num < m.bg) (hk : RgOk t.1) : HsB K C R (upd H dR (.dK (rnV (l ++ [t])))) p dW dK dL dR kvs kept (l ++ [t]) { m with run := m.run ++ [t.1] } := by
  have A := S.apart
  have nt := S.noT _ fp_R
  have kt : Kt H (upd H dR (.dK (rnV (l ++ [t])))) := kt_upd nt
  obtain ⟨dx, hp⟩ := S.at'.ob
  have e1 : t.2.1 ≠ dR := fun z => n1 (z ▸ fp_R)
  have e2 : t.2.2 ≠ dR := fun z => n2 (z ▸ fp_R)
  refine ⟨⟨⟨dx, by rw [upd_ne A.pR]; exact hp⟩, by rw [upd_ne A.WR]; exact S.at'.wo, by rw [upd_ne A.KR]; exact S.at'.ke, by rw [upd_ne A.LR]; exact S.at'.li, upd_same, S.at'.n1, S.at'.n2, S.at'.n3⟩, S.di, kt.dps (fun d m => nl_en (S.go d m)) S.lo, S.go, S.lv, S.lb, by rw [List.map_append, S.rn]; rfl, List.pairwise_append.mpr ⟨S.rp, List.pairwise_singleton _ _, fun x hx y hy => by rw [List.mem_singleton.mp hy]; exact h1 x hx⟩, fun x hx => ?_, fun x hx => ?_, fun u hu => ?_, ?_⟩
  · rcases List.mem_append.mp hx with h | h
    · exact S.rb x h
    · rw [List.mem_singleton.mp h]
      exact h2
  · rcases List.mem_append.mp hx with h | h
    · exact S.rk x h
    · rw [List.mem_singleton.mp h]
      exact hk
  · rcases List.mem_append.mp hu with h | h
    · exact rds_keep nt S.rd (fun t mt => ⟨(A.r1 t mt).2.2.2.2, (A.r2 t mt).2.2.2.2⟩) u h
    · rw [List.mem_singleton.mp h]
      exact hr.keep (fun u e => by rw [upd_ne e1]; exact e) (fun u e => by rw [upd_ne e2]; exact e) kt
  · have e : fpL p dW dK dL dR (l ++ [t]) = fpL p dW dK dL dR l ++ [t.2.1, t.2.2] := by
      unfold fpL
      rw [List.flatMap_append]
      simp
    rw [e]
    refine List.nodup_append.mpr ⟨S.nd, List.nodup_cons.mpr ⟨fun z => n3 (List.mem_singleton.mp z), List.nodup_cons.mpr ⟨List.not_mem_nil, List.nodup_nil⟩⟩, fun a ha b hb z => ?_⟩
    subst z
    simp only [List.mem_cons, List.not_mem_nil, or_false] at hb
    rcases hb with rfl | rfl
    · exact n1 ha
    · exact n2 ha
theorem fp_sub {l2 : List (Rdg × Addr × Addr)} (h : l2.Sublist l) : (fpL p dW dK dL dR l2).Sublist (fpL p dW dK dL dR l) := by
  have g : ∀ {a b : List (Rdg × Addr × Addr)}, a.Sublist b → (a.flatMap fun t => [t.2.1, t.2.2]).Sublist (b.flatMap fun t => [t.2.1, t.2.2]) := fun {a b} s => by
    induction s with
    | slnil => exact List.Sublist.slnil
    | cons x _ ih =>
      rw [List.flatMap_cons]
      exact ih.trans (List.sublist_append_right _ _)
    | cons_cons x _ ih =>
      rw [List.flatMap_cons, List.flatMap_cons]
      exact ih.append_left _
  unfold fpL
  exact ((((((g h).cons_cons _).cons_cons _).cons_cons _).cons_cons _).cons_cons _)
/-- some readings are there no more -/
theorem HsB.rdel {l2 : List (Rdg × Addr × Addr)} (S : HsB K C R H p dW dK dL dR kvs kept l m) (s : l2.Sublist l) : HsB K C R (upd H dR (.dK (rnV l2))) p dW dK dL dR kvs kept l2 { m with run := l2.map (·.1) } := by
  have A := S.apart
  have nt := S.noT _ fp_R
  have kt : Kt H (upd H dR (.dK (rnV l2))) := kt_upd nt
  obtain ⟨dx, hp⟩ := S.at'.ob
  have sm : (l2.map (·.1)).Sublist m.run := S.rn ▸ s.map _
  exact ⟨⟨⟨dx, by rw [upd_ne A.pR]; exact hp⟩, by rw [upd_ne A.WR]; exact S.at'.wo, by rw [upd_ne A.KR]; exact S.at'.ke, by rw [upd_ne A.LR]; exact S.at'.li, upd_same, S.at'.n1, S.at'.n2, S.at'.n3⟩, S.di, kt.dps (fun d m => nl_en (S.go d m)) S.lo, S.go, S.lv, S.lb, rfl, S.rp.sublist sm, fun x hx => S.rb x (sm.subset hx), fun x hx => S.rk x (sm.subset hx), fun u hu => rds_keep nt S.rd (fun t mt => ⟨(A.r1 t mt).2.2.2.2, (A.r2 t mt).2.2.2.2⟩) u (s.subset hu), (S.nd).sublist (fp_sub s)⟩
/-- another table -/
theorem HsB.worths {dx dW' : Addr} {kvs' : List (Key × V)} {f' : Int → Option Int} (S : HsB K C R H p dW dK dL dR kvs kept l m) (h : H dW' = some (.dK kvs')) (di : DI allKs kvs' f') (n : dW' ∉ fpL p dW dK dL dR l) : HsB K C R (upd H p (.ins C dx (hfl dW' dK m.fk m.lg m.bg dL dR))) p dW' dK dL dR kvs' kept l { m with f := f' } := by
  have A := S.apart
  have nt := S.noT _ fp_p
  have kt : Kt H (upd H p (.ins C dx (hfl dW' dK m.fk m.lg m.bg dL dR))) := kt_upd nt
  have np : dW' ≠ p := fun z => n (z ▸ fp_p)
  refine ⟨⟨⟨dx, upd_same⟩, by rw [upd_ne np]; exact h, by rw [upd_ne A.pK.symm]; exact S.at'.ke, by rw [upd_ne A.pL.symm]; exact S.at'.li, by rw [upd_ne A.pR.symm]; exact S.at'.ru, fun z => n (z ▸ fp_L), fun z => n (z ▸ fp_R), S.at'.n3⟩, di, kt.dps (fun d m => nl_en (S.go d m)) S.lo, S.go, S.lv, S.lb, S.rn, S.rp, S.rb, S.rk, rds_keep nt S.rd fun t mt => ⟨(A.r1 t mt).1, (A.r2 t mt).1⟩, ?_⟩
  have nd := S.nd
  unfold fpL at nd n ⊢
  obtain ⟨a1, nd⟩ := List.nodup_cons.mp nd
  obtain ⟨a2, nd⟩ := List.nodup_cons.mp nd
  refine List.nodup_cons.mpr ⟨fun z => ?_, List.nodup_cons.mpr ⟨fun z => n (List.mem_cons_of_mem _ (List.mem_cons_of_mem _ z)), nd⟩⟩
  rcases List.mem_cons.mp z with z | z
  · exact np z.symm
  · exact a1 (List.mem_cons_of_mem _ z)
/-- another log, from a later place on -/
theorem HsB.keptn {dx dK' : Addr} {kept' : List V} {ds' : List PyData} {fk' : Nat} (S : HsB K C R H p dW dK dL dR kvs kept l m) (h : H dK' = some (.lst kept')) (hd : DpAll K H kept' ds') (hg : ∀ d ∈ ds', goodEn allKs d = true) (n : dK' ∉ fpL p dW dK dL dR l) : HsB K C R (upd H p (.ins C dx (hfl dW dK' fk' m.lg m.bg dL dR))) p dW dK' dL dR kvs kept' l { m with log := ds', fk := fk' } := by
  have A := S.apart
  have nt := S.noT _ fp_p
  have kt : Kt H (upd H p (.ins C dx (hfl dW dK' fk' m.lg m.bg dL dR))) := kt_upd nt
  have np : dK' ≠ p := fun z => n (z ▸ fp_p)
  refine ⟨⟨⟨dx, upd_same⟩, by rw [upd_ne A.pW.symm]; exact S.at'.wo, by rw [upd_ne np]; exact h, by rw [upd_ne A.pL.symm]; exact S.at'.li, by rw [upd_ne A.pR.symm]; exact S.at'.ru, S.at'.n1, S.at'.n2, S.at'.n3⟩, S.di, kt.dps (fun d m => nl_en (hg d m)) hd, hg, S.lv, S.lb, S.rn, S.rp, S.rb, S.rk, rds_keep nt S.rd fun t mt => ⟨(A.r1 t mt).1, (A.r2 t mt).1⟩, ?_⟩
  have nd := S.nd
  unfold fpL at nd n ⊢
  obtain ⟨a1, nd⟩ := List.nodup_cons.mp nd
  obtain ⟨a2, nd⟩ := List.nodup_cons.mp nd
  obtain ⟨a3, nd⟩ := List.nodup_cons.mp nd
  simp only [List.mem_cons, not_or] at a1 a2 n
  refine List.nodup_cons.mpr ⟨fun z => ?_, List.nodup_cons.mpr ⟨fun z => ?_, List.nodup_cons.mpr ⟨fun z => ?_, nd⟩⟩⟩
  · simp only [List.mem_cons] at z
    rcases z with z | z | z | z | z
    · exact a1.1 z
    · exact np z.symm
    · exact a1.2.2.1 z
    · exact a1.2.2.2.1 z
    · exact a1.2.2.2.2 z
  · simp only [List.mem_cons] at z
    rcases z with z | z | z | z
    · exact n.2.1 z.symm
    · exact a2.2.1 z
    · exact a2.2.2.1 z
    · exact a2.2.2.2 z
  · simp only [List.mem_cons] at z
    rcases z with z | z | z
    · exact n.2.2.2.1 z
    · exact n.2.2.2.2.1 z
    · exact n.2.2.2.2.2 z
/-- another dict of readings -/
theorem HsB.runn {dx dR' : Addr} {l2 : List (Rdg × Addr × Addr)} (S : HsB K C R H p dW dK dL dR kvs kept l m) (h : H dR' = some (.dK (rnV l2))) (s : l2.Sublist l) (n : dR' ∉ fpL p dW dK dL dR l) : HsB K C R (upd H p (.ins C dx (hfl dW dK m.fk m.lg m.bg dL dR'))) p dW dK dL dR' kvs kept l2 { m with run := l2.map (·.1) } := by
  have A := S.apart
  have nt := S.noT _ fp_p
  have kt : Kt H (upd H p (.ins C dx (hfl dW dK m.fk m.lg m.bg dL dR'))) := kt_upd nt
  have np : dR' ≠ p := fun z => n (z ▸ fp_p)
  have sm : (l2.map (·.1)).Sublist m.run := S.rn ▸ s.map _
  refine ⟨⟨⟨dx, upd_same⟩, by rw [upd_ne A.pW.symm]; exact S.at'.wo, by rw [upd_ne A.pK.symm]; exact S.at'.ke, by rw [upd_ne A.pL.symm]; exact S.at'.li, by rw [upd_ne np]; exact h, S.at'.n1, fun z => n (z ▸ fp_W), fun z => n (z ▸ fp_L)⟩, S.di, kt.dps (fun d m => nl_en (S.go d m)) S.lo, S.go, S.lv, S.lb, rfl, S.rp.sublist sm, fun x hx => S.rb x (sm.subset hx), fun x hx => S.rk x (sm.subset hx), fun u hu => rds_keep nt S.rd (fun t mt => ⟨(A.r1 t mt).1, (A.r2 t mt).1⟩) u (s.subset hu), ?_⟩
  have nd := (S.nd).sublist (fp_sub (p := p) (dW := dW) (dK := dK) (dL := dL) (dR := dR) s)
  have n2 : dR' ∉ fpL p dW dK dL dR l2 := fun z => n ((fp_sub s).subset z)
  unfold fpL at nd n2 ⊢
  obtain ⟨a1, nd⟩ := List.nodup_cons.mp nd
  obtain ⟨a2, nd⟩ := List.nodup_cons.mp nd
  obtain ⟨a3, nd⟩ := List.nodup_cons.mp nd
  obtain ⟨a4, nd⟩ := List.nodup_cons.mp nd
  obtain ⟨a5, nd⟩ := List.nodup_cons.mp nd
  simp only [List.mem_cons, not_or] at a1 a2 a3 a4 n2
  refine List.nodup_cons.mpr ⟨fun z => ?_, List.nodup_cons.mpr ⟨fun z => ?_, List.nodup_cons.mpr ⟨fun z => ?_, List.nodup_cons.mpr ⟨fun z => ?_, List.nodup_cons.mpr ⟨n2.2.2.2.2.2, nd⟩⟩⟩⟩⟩
  · simp only [List.mem_cons] at z
    rcases z with z | z | z | z | z
    · exact a1.1 z
    · exact a1.2.1 z
    · exact a1.2.2.1 z
    · exact np z.symm
    · exact a1.2.2.2.2 z
  · simp only [List.mem_cons] at z
    rcases z with z | z | z | z
    · exact a2.1 z
    · exact a2.2.1 z
    · exact n2.2.1 z.symm
    · exact a2.2.2.2 z
  · simp only [List.mem_cons] at z
    rcases z with z | z | z
    · exact a3.1 z
    · exact n2.2.2.1 z.symm
    · exact a3.2.2 z
  · simp only [List.mem_cons] at z
    rcases z with z | z
    · exact n2.2.2.2.1 z.symm
    · exact a4.2 z
end
end Tc
/-! a reading of the house changed where it stands; lives and numbers looked up -/
namespace Tc
open PySem L2 Evl
theorem pw_two {α : Type} {P : α → α → Prop} (sy : ∀ a b, P a b → P b a) : ∀ {l : List α}, l.Pairwise P → ∀ a ∈ l, ∀ b ∈ l, a ≠ b → P a b
  | [], _, a, h, _, _, _ => by cases h
  | x :: l, pw, a, ha, b, hb, n => by
    obtain ⟨p1, p2⟩ := List.pairwise_cons.mp pw
    rcases List.mem_cons.mp ha with rfl | ha'
    · rcases List.mem_cons.mp hb with rfl | hb'
      · exact absurd rfl n
      · exact p1 b hb'
    · rcases List.mem_cons.mp hb with rfl | hb'
      · exact sy _ _ (p1 a ha')
      · exact pw_two sy p2 a ha' b hb' n
section
variable {K : PySem.W.Frag} {C R : Addr} {H H' : Hp} {p dW dK dL dR : Addr} {kvs : List (Key × V)} {kept : List V} {l : List (Rdg × Addr × Addr)} {m : HM} {X : Addr → Prop}
theorem HsB.two (S : HsB K C R H p dW dK dL dR kvs kept l m) {t u : Rdg × Addr × Addr} (ht : t ∈ l) (hu : u ∈ l) (n : u.1.num ≠ t.1.num) : u.2.1 ≠ t.2.1 ∧ u.2.1 ≠ t.2.2 ∧ u.2.2 ≠ t.2.1 ∧ u.2.2 ≠ t.2.2 := by
  have nd := S.nd
  unfold fpL at nd
  replace nd := (List.nodup_cons.mp (List.nodup_cons.mp (List.nodup_cons.mp (List.nodup_cons.mp (List.nodup_cons.mp nd).2).2).2).2).2
  have h := (List.pairwise_flatMap.mp nd).2
  have g := pw_two (P := fun (a b : Rdg × Addr × Addr) => ∀ x ∈ [a.2.1, a.2.2], ∀ y ∈ [b.2.1, b.2.2], x ≠ y) (fun a b h x hx y hy e => h y hy x hx e.symm) h u hu t ht fun z => n (by rw [z])
  exact ⟨g _ List.mem_cons_self _ List.mem_cons_self, g _ List.mem_cons_self _ (List.mem_cons_of_mem _ List.mem_cons_self), g _ (List.mem_cons_of_mem _ List.mem_cons_self) _ List.mem_cons_self, g _ (List.mem_cons_of_mem _ List.mem_cons_self) _ (List.mem_cons_of_mem _ List.mem_cons_self)⟩
theorem HsB.one (S : HsB K C R H p dW dK dL dR kvs kept l m) {t : Rdg × Addr × Addr} (ht : t ∈ l) : t.2.1 ≠ t.2.2 := by
  have nd := S.nd
  unfold fpL at nd
  replace nd := (List.nodup_cons.mp (List.nodup_cons.mp (List.nodup_cons.mp (List.nodup_cons.mp (List.nodup_cons.mp nd).2).2).2).2).2
  have h := (List.pairwise_flatMap.mp nd).1 t ht
  exact (List.pairwise_cons.mp h).1 _ List.mem_cons_self
/-- the reading of number n made another -/
def upR (n : Int) (g : Rdg → Rdg) (x : Rdg) : Rdg := if x.num = n then g x else x
def upT (n : Int) (g : Rdg → Rdg) (t : Rdg × Addr × Addr) : Rdg × Addr × Addr := (upR n g t.1, t.2)
theorem HsB.rmap {t : Rdg × Addr × Addr} (S : HsB K C R H p dW dK dL dR kvs kept l m) (ht : t ∈ l) (g : Rdg → Rdg) (hn : ∀ x, (g x).num = x.num) (hk : ∀ x, RgOk x → RgOk (g x)) (hr : RdAt K R H' t.2.1 t.2.2 (g t.1)) (e : ∀ a o, a ≠ t.2.1 → a ≠ t.2.2 → H a = some o → H' a = some o) : HsB K C R H' p dW dK dL dR kvs kept (l.map (upT t.1.num g)) { m with run := m.run.map (upR t.1.num g) } := by
  have A := S.apart
  have kt : Kt H H' := Kt.but (fun a => a = t.2.1 ∨ a = t.2.2) (fun a z => by
    rcases z with rfl | rfl
    · exact S.noT _ (fp_r ht).1
    · exact S.noT _ (fp_r ht).2) fun a o z h => e a o (fun y => z (.inl y)) (fun y => z (.inr y)) h
  obtain ⟨dx, hp⟩ := S.at'.ob
  obtain ⟨a1, a2, a3, a4, a5⟩ := A.r1 t ht
  obtain ⟨b1, b2, b3, b4, b5⟩ := A.r2 t ht
  have num : ∀ x, (upR t.1.num g x).num = x.num := fun x => by
    unfold upR
    split
    · exact hn x
    · rfl
  have er : rnV (l.map (upT t.1.num g)) = rnV l := by
    unfold rnV
    rw [List.map_map]
    refine List.map_congr_left fun u _ => ?_
    show ((Sum.inl (upR t.1.num g u.1).num : Key), V.ref u.2.1) = _
    rw [num]
  have ef : fpL p dW dK dL dR (l.map (upT t.1.num g)) = fpL p dW dK dL dR l := by
    unfold fpL
    rw [List.flatMap_map]
    rfl
  refine ⟨⟨⟨dx, e _ _ a1.symm b1.symm hp⟩, e _ _ a2.symm b2.symm S.at'.wo, e _ _ a3.symm b3.symm S.at'.ke, e _ _ a4.symm b4.symm S.at'.li, by rw [er]; exact e _ _ a5.symm b5.symm S.at'.ru, S.at'.n1, S.at'.n2, S.at'.n3⟩, S.di, kt.dps (fun d m => nl_en (S.go d m)) S.lo, S.go, S.lv, S.lb, ?_, ?_, fun x hx => ?_, fun x hx => ?_, fun u hu => ?_, by rw [ef]; exact S.nd⟩
  · show (l.map (upT t.1.num g)).map (·.1) = m.run.map (upR t.1.num g)
    rw [List.map_map, ← S.rn, List.map_map]
    rfl
  · exact List.pairwise_map.mpr (S.rp.imp fun {a b} h => by rw [num, num]; exact h)
  · obtain ⟨y, hy, rfl⟩ := List.mem_map.mp hx
    rw [num]
    exact S.rb y hy
  · obtain ⟨y, hy, rfl⟩ := List.mem_map.mp hx
    unfold upR
    split
    · exact hk y (S.rk y hy)
    · exact S.rk y hy
  · obtain ⟨v, hv, rfl⟩ := List.mem_map.mp hu
    show RdAt K R H' v.2.1 v.2.2 (upR t.1.num g v.1)
    by_cases z : v.1.num = t.1.num
    · have ev : v = t := Classical.byContradiction fun ne => by
        have h1 := pw_two (P := fun (a b : Rdg × Addr × Addr) => a.1.num ≠ b.1.num) (fun a b h e => h e.symm) (l := l) (by have h := S.rp; rw [← S.rn, List.pairwise_map] at h; exact h.imp fun {a b} h => by omega) v hv t ht ne
        exact h1 z
      subst ev
      unfold upR
      rw [if_pos rfl]
      exact hr
    · obtain ⟨c1, c2, c3, c4⟩ := S.two ht hv z
      unfold upR
      rw [if_neg z]
      exact (S.rd v hv).keep (fun o h => e _ _ c1 c2 h) (fun o h => e _ _ c3 c4 h) kt
theorem lv_some (l : List (Int × Option Int)) (k : Int) : (valV (lvV l) (.inl k)).isSome = decide (k ∈ l.map (·.1)) := by
  have h := valV_memI (kvs := lvV l) (k := .inl k)
  have e : (lvV l).map (·.1) = (l.map (·.1)).map Sum.inl := by
    unfold lvV
    rw [List.map_map, List.map_map]
    rfl
  rw [e] at h
  have h2 : (Sum.inl k : Key) ∈ (l.map (·.1)).map Sum.inl ↔ k ∈ l.map (·.1) := by
    rw [List.mem_map]
    exact ⟨fun ⟨j, m, z⟩ => Sum.inl.inj z ▸ m, fun m => ⟨k, m, rfl⟩⟩
  rw [h2] at h
  cases e2 : (valV (lvV l) (.inl k)).isSome with
  | true => exact (decide_eq_true (h.mpr e2)).symm
  | false => exact (decide_eq_false fun z => by rw [h.mp z] at e2; cases e2).symm
theorem lv_val : ∀ {l : List (Int × Option Int)} {i : Nat} {r : Int × Option Int}, (l.Pairwise fun x y => x.1 < y.1) → l[i]? = some r → valV (lvV l) (.inl r.1) = some (opV r.2)
  | [], _, _, _, h => by cases h
  | q :: l, 0, r, _, h => by
    cases h
    exact valV_pos rfl
  | q :: l, i + 1, r, pw, h => by
    obtain ⟨p1, p2⟩ := List.pairwise_cons.mp pw
    have m : r ∈ l := List.mem_of_getElem? h
    have lt := p1 r m
    show valV ((.inl q.1, opV q.2) :: lvV l) (.inl r.1) = _
    rw [valV_neg fun z => by
      have := Sum.inl.inj z
      omega]
    exact lv_val p2 h
theorem lv_none {l : List (Int × Option Int)} {k : Int} (h : ∀ r ∈ l, r.1 ≠ k) : valV (lvV l) (.inl k) = none := by
  have := lv_some l k
  rw [decide_eq_false fun z => by
    obtain ⟨r, m, e⟩ := List.mem_map.mp z
    exact h r m e] at this
  exact Option.isNone_iff_eq_none.mp (by rw [← Option.not_isSome, this]; rfl)
theorem rn_some (l : List (Rdg × Addr × Addr)) (k : Int) : (valV (rnV l) (.inl k)).isSome = decide (k ∈ l.map (·.1.num)) := by
  have h := valV_memI (kvs := rnV l) (k := .inl k)
  have e : (rnV l).map (·.1) = (l.map (·.1.num)).map Sum.inl := by
    unfold rnV
    rw [List.map_map, List.map_map]
    rfl
  rw [e] at h
  have h2 : (Sum.inl k : Key) ∈ (l.map (·.1.num)).map Sum.inl ↔ k ∈ l.map (·.1.num) := by
    rw [List.mem_map]
    exact ⟨fun ⟨j, m, z⟩ => Sum.inl.inj z ▸ m, fun m => ⟨k, m, rfl⟩⟩
  rw [h2] at h
  cases e2 : (valV (rnV l) (.inl k)).isSome with
  | true => exact (decide_eq_true (h.mpr e2)).symm
  | false => exact (decide_eq_false fun z => by rw [h.mp z] at e2; cases e2).symm
theorem rn_val : ∀ {l : List (Rdg × Addr × Addr)} {t : Rdg × Addr × Addr}, (l.Pairwise fun x y => x.1.num < y.1.num) → t ∈ l → valV (rnV l) (.inl t.1.num) = some (.ref t.2.1)
  | [], _, _, h => by cases h
  | q :: l, t, pw, h => by
    obtain ⟨p1, p2⟩ := List.pairwise_cons.mp pw
    show valV ((.inl q.1.num, .ref q.2.1) :: rnV l) (.inl t.1.num) = _
    rcases List.mem_cons.mp h with rfl | h
    · exact valV_pos rfl
    · have lt := p1 t h
      rw [valV_neg fun z => by
        have := Sum.inl.inj z
        omega]
      exact rn_val p2 h
theorem HsB.lp (S : HsB K C R H p dW dK dL dR kvs kept l m) : l.Pairwise fun x y => x.1.num < y.1.num := by
  have h := S.rp
  rw [← S.rn, List.pairwise_map] at h
  exact h
theorem HsB.nums (S : HsB K C R H p dW dK dL dR kvs kept l m) : l.map (·.1.num) = m.run.map (·.num) := by
  rw [← S.rn, List.map_map]
  rfl
theorem HsB.klen (S : HsB K C R H p dW dK dL dR kvs kept l m) : kept.length = m.log.length := dps_len S.lo
end
end Tc
namespace K27
open PySem L2 PyProof.Rows Tc Evl
/-- the pieces with those of one number changed -/
def upP (n : Int) (g : Pce → Pce) (x : Pce) : Pce := if x.num = n then g x else x
def upQ (n : Int) (g : Pce → Pce) (t : Pce × Addr) : Pce × Addr := (upP n g t.1, t.2)
section
variable {K : PySem.W.Frag} {C Cp : Addr} {H H' : Hp} {p d g pp nn : Addr} {kvs : List (Key × V)} {gv : List V} {l : List (Pce × Addr)} {m : TM} {X : Addr → Prop}
theorem TkB.one (S : TkB K C Cp H p d g pp nn kvs gv l m) {s t : Pce × Addr} (hs : s ∈ l) (ht : t ∈ l) (e : s.1.num = t.1.num) : s = t := by
  have h := S.pd
  rw [← S.pl, List.map_map] at h
  have pw := List.pairwise_map.mp h
  exact Classical.byContradiction fun ne => pw_two (P := fun (a b : Pce × Addr) => a.1.num ≠ b.1.num) (fun a b h e => h e.symm) (l := l) pw s hs t ht ne e
theorem TkB.apart (S : TkB K C Cp H p d g pp nn kvs gv l m) {s t : Pce × Addr} (hs : s ∈ l) (ht : t ∈ l) (e : s.1.num ≠ t.1.num) : s.2 ≠ t.2 := by
  have pw := List.pairwise_map.mp (fpT_n S.nd).lq
  exact pw_two (P := fun (a b : Pce × Addr) => a.2 ≠ b.2) (fun a b h e => h e.symm) (l := l) pw s hs t ht fun z => e (by rw [z])
/-- a piece is changed -/
theorem TkB.pmap {t : Pce × Addr} (S : TkB K C Cp H p d g pp nn kvs gv l m) (ht : t ∈ l) (gg : Pce → Pce) (hn : ∀ x, (gg x).num = x.num) (hk : PcOk (gg t.1)) (hr : PcA K Cp H' t.2 (gg t.1)) (e : ∀ a o, a ≠ t.2 → H a = some o → H' a = some o) : TkB K C Cp H' p d g pp nn kvs gv (l.map (upQ t.1.num gg)) { m with pcs := m.pcs.map (upP t.1.num gg) } := by
  have N := fpT_n S.nd
  have kt : Kt H H' := Kt.but (fun a => a = t.2) (fun a z => by
    subst z
    exact S.noT _ (ft_q ht)) fun a o z h => e a o z h
  obtain ⟨dx, hp⟩ := S.at'.ob
  obtain ⟨a1, a2, a3, a4, a5⟩ := N.q t ht
  have num : ∀ x, (upP t.1.num gg x).num = x.num := fun x => by
    unfold upP
    split
    · exact hn x
    · rfl
  have er : pcV (l.map (upQ t.1.num gg)) = pcV l := by
    unfold pcV
    rw [List.map_map]
    refine List.map_congr_left fun u _ => ?_
    show ((Sum.inl (upP t.1.num gg u.1).num : Key), V.ref u.2) = _
    rw [num]
  have ef : fpT p d g pp nn (l.map (upQ t.1.num gg)) = fpT p d g pp nn l := by
    unfold fpT
    rw [List.map_map]
    rfl
  refine ⟨⟨⟨dx, e _ _ a1.symm hp⟩, e _ _ a2.symm S.at'.dc, e _ _ a3.symm S.at'.gl, ⟨_, e _ _ a4.symm S.pp'⟩, ⟨_, e _ _ a5.symm S.nn'⟩, S.at'.n1, S.at'.n2, S.at'.n3⟩, S.kd, kt.dps S.eg S.ev, S.eg, by rw [er]; exact e _ _ a4.symm S.pp', e _ _ a5.symm S.nn', ?_, ?_, fun x hx => ?_, fun x hx => ?_, fun u hu => ?_, by rw [ef]; exact S.nd⟩
  · show (l.map (upQ t.1.num gg)).map (·.1) = m.pcs.map (upP t.1.num gg)
    rw [List.map_map, ← S.pl, List.map_map]
    rfl
  · show ((m.pcs.map (upP t.1.num gg)).map (·.num)).Nodup
    rw [List.map_map]
    have : (fun x : Pce => x.num) ∘ upP t.1.num gg = fun x => x.num := funext num
    rw [this]
    exact S.pd
  · obtain ⟨y, hy, rfl⟩ := List.mem_map.mp hx
    rw [num]
    exact S.pn y hy
  · obtain ⟨y, hy, rfl⟩ := List.mem_map.mp hx
    unfold upP
    split
    · rename_i en
      rw [← S.pl] at hy
      obtain ⟨s, hs, rfl⟩ := List.mem_map.mp hy
      rw [S.one hs ht en]
      exact hk
    · exact S.po y hy
  · obtain ⟨v, hv, rfl⟩ := List.mem_map.mp hu
    show PcA K Cp H' v.2 (upP t.1.num gg v.1)
    by_cases z : v.1.num = t.1.num
    · obtain rfl := S.one hv ht z
      unfold upP
      rw [if_pos rfl]
      exact hr
    · unfold upP
      rw [if_neg z]
      exact (S.pc v hv).keep (fun o h => e _ _ (S.apart hv ht z) h) kt
/-- a piece is forgotten -/
theorem TkB.pdel (S : TkB K C Cp H p d g pp nn kvs gv l m) (n : Int) : TkB K C Cp (upd H pp (.dK (dropK (pcV l) (.inl n)))) p d g pp nn kvs gv (l.filter fun t => !decide (t.1.num = n)) { m with pcs := m.pcs.filter fun x => !decide (x.num = n) } := by
  have N := fpT_n S.nd
  have kt : Kt H (upd H pp (.dK (dropK (pcV l) (.inl n)))) := Kt.but (fun a => a = pp) (fun a z => by
    subst z
    exact S.noT _ ft_pp) fun a o z h => by rw [upd_ne z]; exact h
  have e : ∀ a o, a ≠ pp → H a = some o → (upd H pp (.dK (dropK (pcV l) (.inl n)))) a = some o := fun a o z h => by rw [upd_ne z]; exact h
  obtain ⟨dx, hp⟩ := S.at'.ob
  have ed : dropK (pcV l) (.inl n) = pcV (l.filter fun t => !decide (t.1.num = n)) := by
    unfold dropK pcV
    rw [List.filter_map]
    congr 1
    refine List.filter_congr fun t _ => ?_
    show decide ((Sum.inl t.1.num : Key) ≠ .inl n) = !decide (t.1.num = n)
    by_cases z : t.1.num = n
    · rw [decide_eq_true z, z]
      simp
    · rw [decide_eq_false z]
      exact decide_eq_true fun y => z (Sum.inl.inj y)
  have ep : (l.filter fun t => !decide (t.1.num = n)).map (·.1) = m.pcs.filter fun x => !decide (x.num = n) := by
    rw [← S.pl, List.filter_map]
    rfl
  refine ⟨⟨⟨dx, e _ _ N.a3 hp⟩, e _ _ N.b2 S.at'.dc, e _ _ N.c1 S.at'.gl, ⟨_, upd_same⟩, ⟨_, e _ _ N.e1.symm S.nn'⟩, S.at'.n1, S.at'.n2, S.at'.n3⟩, S.kd, kt.dps S.eg S.ev, S.eg, by rw [upd_same, ed], e _ _ N.e1.symm S.nn', ep, ?_, fun x hx => S.pn x (List.mem_filter.mp hx).1, fun x hx => S.po x (List.mem_filter.mp hx).1, fun u hu => ?_, ?_⟩
  · exact S.pd.sublist (List.filter_sublist.map _)
  · have hu' := (List.mem_filter.mp hu).1
    exact (S.pc u hu').keep (fun o h => e _ _ (N.q u hu').2.2.2.1 h) kt
  · unfold fpT
    refine S.nd.sublist ?_
    unfold fpT
    exact (((((List.filter_sublist.map _).cons₂ _).cons₂ _).cons₂ _).cons₂ _).cons₂ _
theorem fpT_sub {l2 : List (Pce × Addr)} (h : l2.Sublist l) : (fpT p d g pp nn l2).Sublist (fpT p d g pp nn l) := by
  unfold fpT
  exact (((((h.map _).cons₂ _).cons₂ _).cons₂ _).cons₂ _).cons₂ _
/-- a piece is asked for -/
theorem TkB.pnew {x : Pce} {q : Addr} (S : TkB K C Cp H p d g pp nn kvs gv l m) (nq : H q = none) (nn0 : x.num ∉ m.nums) (hk : PcOk x) (hq : PcA K Cp H' q x) (e : ∀ a o, a ≠ pp → a ≠ nn → H a = some o → H' a = some o) (h1 : H' pp = some (.dK (putK (pcV l) (.inl x.num) (.ref q)))) (h2 : H' nn = some (.dK (putK (nuV m.nums) (.inl x.num) (.bl true)))) : TkB K C Cp H' p d g pp nn kvs gv (l ++ [(x, q)]) { m with pcs := m.pcs ++ [x], nums := m.nums ++ [x.num] } := by
  have N := fpT_n S.nd
  have kt : Kt H H' := Kt.but (fun a => a = pp ∨ a = nn) (fun a z => by
    rcases z with rfl | rfl
    · exact S.noT _ ft_pp
    · exact S.noT _ ft_nn) fun a o z h => e a o (fun y => z (.inl y)) (fun y => z (.inr y)) h
  obtain ⟨dx, hp⟩ := S.at'.ob
  have no : pcOf m x.num = none := List.find?_eq_none.mpr fun y my z => nn0 (by
    have := S.pn y my
    rw [of_decide_eq_true z] at this
    exact this)
  have e1 : putK (pcV l) (.inl x.num) (.ref q) = pcV (l ++ [(x, q)]) := by
    rcases pcV_val S x.num with ⟨_, h⟩ | ⟨t, _, _, h, _⟩
    · rw [putK_new _ h]
      unfold pcV
      rw [List.map_append]
      rfl
    · rw [no] at h
      cases h
  have e2 : putK (nuV m.nums) (.inl x.num) (.bl true) = nuV (m.nums ++ [x.num]) := by
    rw [putK_new _ (by rw [nuV_val, if_neg nn0])]
    unfold nuV
    rw [List.map_append]
    rfl
  refine ⟨⟨⟨dx, e _ _ N.a3 N.a4 hp⟩, e _ _ N.b2 N.b3 S.at'.dc, e _ _ N.c1 N.c2 S.at'.gl, ⟨_, h1⟩, ⟨_, h2⟩, S.at'.n1, S.at'.n2, S.at'.n3⟩, S.kd, kt.dps S.eg S.ev, S.eg, by rw [h1, e1], by rw [h2, e2], by rw [List.map_append, S.pl]; rfl, ?_, fun y hy => ?_, fun y hy => ?_, fun u hu => ?_, ?_⟩
  · show ((m.pcs ++ [x]).map (·.num)).Nodup
    rw [List.map_append]
    refine List.nodup_append.mpr ⟨S.pd, (by simp), fun a ha b hb z => ?_⟩
    obtain ⟨y, my, rfl⟩ := List.mem_map.mp ha
    rw [List.mem_singleton.mp hb] at z
    exact nn0 (by
      have := S.pn y my
      rw [show y.num = x.num from z] at this
      exact this)
  · rcases List.mem_append.mp hy with hy | hy
    · exact List.mem_append_left _ (S.pn y hy)
    · rw [List.mem_singleton.mp hy]
      exact List.mem_append_right _ List.mem_cons_self
  · rcases List.mem_append.mp hy with hy | hy
    · exact S.po y hy
    · rw [List.mem_singleton.mp hy]
      exact hk
  · rcases List.mem_append.mp hu with hu | hu
    · exact (S.pc u hu).keep (fun o h => e _ _ (N.q u hu).2.2.2.1 (N.q u hu).2.2.2.2 h) kt
    · rw [List.mem_singleton.mp hu]
      exact hq
  · have nf : ∀ a ∈ fpT p d g pp nn l, a ≠ q := fun a ha z => by
      obtain ⟨o, h, _⟩ := S.noT a ha
      rw [z, nq] at h
      cases h
    have ea : fpT p d g pp nn (l ++ [(x, q)]) = fpT p d g pp nn l ++ [q] := by
      unfold fpT
      rw [List.map_append]
      rfl
    rw [ea]
    refine List.nodup_append.mpr ⟨S.nd, (by simp), fun a ha b hb z => ?_⟩
    rw [List.mem_singleton.mp hb] at z
    exact nf a ha z
end
end K27
/-! a dict comprehension over items; the looks of a reading -/
namespace Tc
open PySem L2 Evl
theorem dc_items {d : Addr} {o : Obj} {kvs : List (Key × V)} {g : TG} {tt : TT} {tk tv : TE} {own : List Nat} {σ : L2.St} {H1 : Hp} {D : Addr} {Fin : Hp → Prop} (Pv : Nat → Hp → Prop) (h0 : Pv 0 (upd H1 D (.dK []))) (hl : ∀ j G, j ≤ kvs.length → Pv j G → G d = some (.frz o (.dK kvs)))
    (hs : ∀ j k v G T, kvs[j]? = some (k, v) → Pv j G → G T = none → g (.ref T) (wipe σ own) (upd G T (.tup [kV k, v])) fun τ G2 => wipe τ own = wipe σ own ∧ tt τ G2 fun c G3 => if c = true then (tk τ G3 fun y G4 => tv τ G4 fun z G5 => ∃ acc key, y = kV key ∧ G5 D = some (.dK acc) ∧ acc.length < sizeLine ∧ Pv (j + 1) (upd G5 D (.dK (putK acc key z)))) else Pv (j + 1) G3) (hd : ∀ G, Pv kvs.length G → Fin G) :
    ∃ R : Nat → Nat → Hp → Prop, (∃ n, R 0 n (upd H1 D (.dK []))) ∧ ∀ j n G, R j n G → ((Iti d o kvs).stop j G ∧ Fin G) ∨ ((Iti d o kvs).go j G ∧ ∃ On : Hp → Prop, (∀ G', On G' → ∃ n', n' < n ∧ R (j + 1) n' G') ∧
      ∀ x G', (Iti d o kvs).yld j G x G' → g x (wipe σ own) G' fun τ G2 => wipe τ own = wipe σ own ∧ tt τ G2 fun c G3 => if c = true then (tk τ G3 fun y G4 => tv τ G4 fun z G5 => ∃ acc key, y = kV key ∧ G5 D = some (.dK acc) ∧ acc.length < sizeLine ∧ On (upd G5 D (.dK (putK acc key z)))) else On G3) := by
  refine ⟨fun j n G => j ≤ kvs.length ∧ n = kvs.length - j ∧ Pv j G, ⟨_, Nat.zero_le _, rfl, h0⟩, ?_⟩
  intro j n G ⟨hj, en, p⟩
  have at1 := hl j G hj p
  rcases Nat.lt_or_ge j kvs.length with lt | ge
  · refine .inr ⟨⟨at1, lt⟩, Pv (j + 1), fun G' p' => ⟨kvs.length - (j + 1), by omega, by omega, rfl, p'⟩, ?_⟩
    rintro x G' ⟨T, k, v, e, rfl, nT, rfl⟩
    exact hs j k v _ T e p nT
  · have e : j = kvs.length := Nat.le_antisymm hj ge
    subst e
    exact .inl ⟨⟨at1, Nat.le_refl _⟩, hd G p⟩
/-- the first of n keys from a on that has a worth -/
def firstN (f : Int → Option Int) : Nat → Int → Option (Int × Int)
  | 0, _ => none
  | n + 1, a => match f a with
    | some z => some (a, z)
    | none => firstN f n (a + 1)
def firstIn (f : Int → Option Int) (a b : Int) : Option (Int × Int) := firstN f (b - a).toNat a
theorem firstN_in {f : Int → Option Int} : ∀ {n : Nat} {a : Int} {r : Int × Int}, firstN f n a = some r → a ≤ r.1 ∧ r.1 < a + n ∧ f r.1 = some r.2
  | 0, _, _, h => by cases h
  | n + 1, a, r, h => by
    unfold firstN at h
    split at h
    · rename_i z e
      cases h
      exact ⟨Int.le_refl _, by omega, e⟩
    · have := firstN_in h
      exact ⟨by omega, by omega, this.2.2⟩
/-- where the next look begins -/
def nextOf (x : Rdg) : Int := match x.found.getLast? with
  | some r => r.1 + 1
  | none => x.lo
def look1 (f : Int → Option Int) (x : Rdg) : Rdg := match firstIn f (nextOf x) x.hi with
  | some r => { x with found := x.found ++ [r] }
  | none => { x with ended := true }
def lookN (f : Int → Option Int) : Nat → Rdg → Rdg
  | 0, x => x
  | n + 1, x => let y := lookN f n x; if y.ended then y else look1 f y
theorem look1_num (f : Int → Option Int) (x : Rdg) : (look1 f x).num = x.num ∧ (look1 f x).own = x.own ∧ (look1 f x).lo = x.lo ∧ (look1 f x).hi = x.hi := by
  unfold look1
  split <;> exact ⟨rfl, rfl, rfl, rfl⟩
theorem next_in {x : Rdg} (h : RgOk x) : 0 ≤ nextOf x ∧ nextOf x ≤ 1000 := by
  unfold nextOf
  split
  · rename_i r e
    have := h.f r (List.mem_of_getLast? e)
    omega
  · have := h.a
    have := h.b
    have := h.c
    omega
theorem next_gt {x : Rdg} (h : RgOk x) : ∀ r ∈ x.found, r.1 < nextOf x := fun r m => by
  by_cases e : x.found = []
  · rw [e] at m
    cases m
  · have es : x.found = x.found.dropLast ++ [x.found.getLast e] := (List.dropLast_concat_getLast e).symm
    have nx : nextOf x = (x.found.getLast e).1 + 1 := by
      unfold nextOf
      rw [List.getLast?_eq_some_getLast e]
    have pw := h.g
    rw [es] at pw m
    have p := (List.pairwise_append.mp pw).2.2
    rcases List.mem_append.mp m with m | m
    · have := p r m _ (List.mem_singleton.mpr rfl)
      omega
    · rw [List.mem_singleton.mp m]
      omega
theorem RgOk.len {x : Rdg} (h : RgOk x) : x.found.length ≤ 1000 := by
  have nd : (x.found.map (·.1)).Nodup := (List.pairwise_map.mpr h.g).imp fun {a b} z e => by omega
  have := len_sub (m := allKs) nd fun k m => by
    obtain ⟨r, mr, rfl⟩ := List.mem_map.mp m
    have := h.f r mr
    exact allKs_mem this.1 this.2
  rw [List.length_map, allKs_len] at this
  exact this
theorem look1_ok {f : Int → Option Int} {x : Rdg} (h : RgOk x) : RgOk (look1 f x) := by
  unfold look1
  split
  · rename_i r e
    refine ⟨h.a, h.b, h.c, fun q m => ?_, List.pairwise_append.mpr ⟨h.g, List.pairwise_singleton _ _, fun q m y hy => ?_⟩⟩
    rotate_left
    · rw [List.mem_singleton.mp hy]
      have i := firstN_in e
      have := next_gt h q m
      omega
    rcases List.mem_append.mp m with m | m
    · exact h.f q m
    · rw [List.mem_singleton.mp m]
      have i := firstN_in e
      have n := next_in h
      have := h.c
      constructor
      · omega
      · by_cases g : nextOf x ≤ x.hi
        · omega
        · have e0 : (x.hi - nextOf x).toNat = 0 := by omega
          rw [firstIn, e0] at e
          cases e
  · exact ⟨h.a, h.b, h.c, h.f, h.g⟩
theorem lookN_num (f : Int → Option Int) : ∀ (n : Nat) (x : Rdg), (lookN f n x).num = x.num ∧ (lookN f n x).own = x.own ∧ (lookN f n x).lo = x.lo ∧ (lookN f n x).hi = x.hi
  | 0, x => ⟨rfl, rfl, rfl, rfl⟩
  | n + 1, x => by
    have ih := lookN_num f n x
    unfold lookN
    dsimp only
    split
    · exact ih
    · have := look1_num f (lookN f n x)
      exact ⟨this.1.trans ih.1, this.2.1.trans ih.2.1, this.2.2.1.trans ih.2.2.1, this.2.2.2.trans ih.2.2.2⟩
theorem lookN_ok {f : Int → Option Int} : ∀ (n : Nat) {x : Rdg}, RgOk x → RgOk (lookN f n x)
  | 0, _, h => h
  | n + 1, x, h => by
    have ih := lookN_ok (f := f) n h
    unfold lookN
    dsimp only
    split
    · exact ih
    · exact look1_ok ih
/-- a reading as it is told -/
def rdD (x : Rdg) : PyData := .tuple [.int x.num, .int x.own, .tuple [.int x.lo, .int x.hi], rowsD x.found, .bool x.ended]
end Tc
namespace K27
open PySem L2 PyProof.Rows Tc Evl
section
variable {P : Program} {w : World} {K : PySem.W.Frag} {mg : Str → Option Value} {base : Heap}
def spPc (Cp : Addr) : Sp := fun vs H Q _ => ∃ (q dx : Addr) (a b : Int), vs = [.ref q, .int a, .int b] ∧ H q = some (.ins Cp dx []) ∧ ∀ t H', H t = none → (∀ x u, x ≠ q → H x = some u → H' x = some u) → PcAt Cp H' q t false .non → H' t = some (.tup [.int a, .int b]) → Q .non H'
theorem putF_le {f : Str} {v : V} : ∀ {fs : List (Str × V)} {n : Nat}, fs.length ≤ n → (putF f v fs).length ≤ n + 1
  | [], n, _ => by show 1 ≤ n + 1; omega
  | (g, x) :: r, n, h => by
    show (if g = f then _ else _ : List (Str × V)).length ≤ n + 1
    split
    · exact Nat.le_succ_of_le h
    · rw [List.length_cons] at h ⊢
      have := putF_le (f := f) (v := v) (fs := r) (n := n - 1) (by omega)
      omega
theorem mk_step {Hk : Hp} {p d : Addr} {o o2 op : HO} (hp : Hk p = some op) (hd : Hk d = none) : p ≠ d ∧ (upd Hk d o) p = some op ∧ (upd (upd Hk d o) p o2) p = some o2 ∧ (upd (upd Hk d o) p o2) d = some o ∧ ∀ a u, a ≠ p → Hk a = some u → (upd (upd Hk d o) p o2) a = some u := by
  have pd : p ≠ d := fun z => by
    rw [z, hd] at hp
    cases hp
  refine ⟨pd, by rw [upd_ne pd]; exact hp, upd_same, by rw [upd_ne pd.symm]; exact upd_same, fun a u n h => ?_⟩
  rw [upd_ne n, upd_ne fun z => by rw [z, hd] at h; cases h]
  exact h
end
section
variable {P : Program} {w : World} {K : PySem.W.Frag} {mg : Str → Option Value} {base : Heap}
abbrev sPiece : Stmt := topS 45
abbrev mPc : Stmt := inClass sPiece 0
theorem scPc : FnScope ["self", "first", "last"] ["self", "first", "last"] (defScope mPc) := ⟨rfl, rfl, rfl, by decide +kernel, rfl, by decide +kernel, by decide +kernel⟩
theorem ok_pc {f Cp : Addr} {fd : FuncData} {k : Nat} (F : Fun K "__init__" "Piece.__init__" mPc f fd) (T2 : TxtP K mg Cp) : FnOk P w K mg base CX0 (k + 1) f fd ["self", "first", "last"] (spPc Cp) := by
  refine F.ok scPc (fun vs H Q E h => ?_) (fun cdv A outer s H vs Q E hr h => ?_)
  · obtain ⟨q, dx, a, b, rfl, _⟩ := h
    rfl
  · obtain ⟨q, dx, a, b, rfl, hq, k⟩ := h
    refine ⟨_, (pss_cons (ps_fld (pv 0) (pe_tup (pa_cons (pv 1) (pa_cons (pv 2) pa_nil))) rfl)
      (pss_cons (ps_fld (pv 0) pe_bl rfl)
      (pss_one (ps_fld (pv 0) pe_non rfl)))), ?_⟩
    have n1 : ∀ t : Addr, (putF "stretch" (.ref t) []).length ≤ 1 := fun t => putF_le (Nat.le_refl _)
    have n2 : ∀ t : Addr, (putF "under_way" (.bl false) (putF "stretch" (.ref t) [])).length ≤ 2 := fun t => putF_le (n1 t)
    refine s_seq ⟨.int a, rfl, .int b, rfl, sz_of (by simp), fun t ht => ?_⟩
    obtain ⟨qt, h1, h2, h3, h4⟩ := mk_step (o := .tup [.int a, .int b]) (o2 := .ins Cp dx (putF "stretch" (.ref t) [])) hq ht
    refine ⟨.ref q, rfl, q, Cp, dx, _, rfl, h1, T2.cl, T2.nS, by show 0 < 1000; decide, ?_⟩
    refine s_seq ⟨.ref q, rfl, q, Cp, dx, _, rfl, h2, T2.cl, T2.nU, by have := n1 t; omega, ?_⟩
    refine ⟨.ref q, rfl, q, Cp, dx, _, rfl, upd_same, T2.cl, T2.nC, by have := n2 t; omega, ?_⟩
    rw [pfl_made, upd_upd, upd_upd]
    dsimp only
    refine k t _ ht (fun x u n h => ?_) ⟨dx, upd_same⟩ (by rw [upd_ne qt.symm]; exact upd_same)
    rw [upd_ne n, upd_ne fun z => by rw [z, ht] at h; cases h]
    exact h
end
abbrev mApc : Stmt := inClass sTaker 20
abbrev mGup : Stmt := inClass sTaker 10
abbrev mAns : Stmt := inClass sTaker 9
abbrev mAsk : Stmt := inClass sTaker 8
theorem smApc : FnScope ["self", "number"] ["self", "number"] (defScope mApc) := ⟨rfl, rfl, rfl, by decide +kernel, rfl, by decide +kernel, by decide +kernel⟩
theorem smGup : FnScope ["self", "number"] ["self", "number"] (defScope mGup) := ⟨rfl, rfl, rfl, by decide +kernel, rfl, by decide +kernel, by decide +kernel⟩
theorem smAns : FnScope ["self", "number", "rows", "piece", "first", "last"] ["self", "number", "rows"] (defScope mAns) := ⟨rfl, rfl, rfl, by decide +kernel, rfl, by decide +kernel, by decide +kernel⟩
theorem smAsk : FnScope ["self", "number", "first", "last"] ["self", "number", "first", "last"] (defScope mAsk) := ⟨rfl, rfl, rfl, by decide +kernel, rfl, by decide +kernel, by decide +kernel⟩
theorem rowsB_of {b : Int} : ∀ (ds : List PyData) (l : Int), 0 ≤ l → risB b l ds = true → ∃ rs : List (Int × Int), ds = rs.map Tc.pairD ∧ (rs.Pairwise fun x y => x.1 < y.1) ∧ ∀ r ∈ rs, l ≤ r.1 ∧ r.1 < b ∧ 0 ≤ r.2 ∧ r.2 < 1000
  | [], _, _, _ => ⟨[], rfl, .nil, fun r m => (by cases m)⟩
  | d :: ds, l, l0, h => by
    rw [risB, Bool.and_eq_true, Bool.and_eq_true, Bool.and_eq_true, decide_eq_true_eq, decide_eq_true_eq] at h
    obtain ⟨⟨h1, h2, h2'⟩, h3⟩ := h
    obtain ⟨k, z, rfl, hk⟩ : ∃ k z : Int, d = Tc.pairD (k, z) ∧ 0 ≤ k ∧ k < 1000 ∧ 0 ≤ z ∧ z < 1000 := by
      cases d with
      | tuple es =>
        obtain ⟨d0, d1, rfl, k0, k1⟩ := row_two h1
        cases d0 with
        | int k =>
          cases d1 with
          | int z =>
            have p0 : (decide (0 ≤ k) && decide (k < 1000)) = true := k0
            have p1 : (decide (0 ≤ z) && decide (z < 1000)) = true := k1
            rw [Bool.and_eq_true, decide_eq_true_eq, decide_eq_true_eq] at p0 p1
            exact ⟨k, z, rfl, p0.1, p0.2, p1.1, p1.2⟩
          | _ => cases k1
        | _ => cases k0
      | _ => cases h1
    have e2 : l ≤ k := h2
    have e3 : k < b := h2'
    obtain ⟨rs, rfl, up, inn⟩ := rowsB_of ds (k + 1) (by omega) h3
    refine ⟨(k, z) :: rs, rfl, List.pairwise_cons.mpr ⟨fun r m => ?_, up⟩, fun r m => ?_⟩
    · have := (inn r m).1
      show k < r.1
      omega
    · rcases List.mem_cons.mp m with rfl | m
      · exact ⟨e2, e3, hk.2.2.1, hk.2.2.2⟩
      · have := inn r m
        exact ⟨by omega, this.2.1, this.2.2.1, this.2.2.2⟩
theorem rowsB_rs {a b : Int} {d : PyData} (a0 : 0 ≤ a) (h : rowsB a b d = true) : ∃ rs, d = rowsD rs ∧ (∀ r ∈ rs, a ≤ r.1 ∧ r.1 < b ∧ 0 ≤ r.2 ∧ r.2 < 1000) ∧ rs.Pairwise fun x y => x.1 < y.1 := by
  cases d with
  | tuple ds =>
    obtain ⟨rs, rfl, up, inn⟩ := rowsB_of ds a a0 h
    exact ⟨rs, rfl, inn, up⟩
  | _ => cases h
def spStr1 : Sp := fun vs H Q _ => ∃ a b : Int, vs = [.int a, .int b] ∧ ∀ H', Ex H H' → Q (.bl (decide (0 ≤ a) && (decide (a < b) && decide (b ≤ 1000)))) H'
def spApcX (K : PySem.W.Frag) (C Cp CN : Addr) : Sp := fun vs H Q E => ∃ (p d g pp nn : Addr) (kvs : List (Key × V)) (gv : List V) (l : List (Pce × Addr)) (m : TM) (i : Int), vs = [.ref p, .int i] ∧ TkB K C Cp H p d g pp nn kvs gv l m ∧ i.natAbs.log2 < 1920 ∧
  (pcOf m i = none → ∀ d' H', H d' = none → Ex H H' → H' d' = some (.xd [("number", .int i)]) → E (.ref CN) (some d') H') ∧ (∀ t ∈ l, t.1.num = i → pcOf m i = some t.1 → ∀ H', Ex H H' → Q (.ref t.2) H')
def spGup (K : PySem.W.Frag) (C Cp CN : Addr) : Sp := fun vs H Q E => ∃ (p : Addr) (m : TM) (X : Addr → Prop) (i : Int), vs = [.ref p, .int i] ∧ TkM K C Cp H p m X ∧ i.natAbs.log2 < 1920 ∧
  (pcOf m i = none → ∀ d' H', H d' = none → Ex H H' → H' d' = some (.xd [("number", .int i)]) → E (.ref CN) (some d') H') ∧ (∀ x, pcOf m i = some x → ∀ H', TOut K C Cp H p X { m with pcs := m.pcs.filter fun x => !decide (x.num = i) } H' → Q .non H')
def cmP (rs : List (Int × Int)) (x : Pce) : Pce := { x with came := some rs }
def spAnsX (K : PySem.W.Frag) (C Cp CN CT CR : Addr) : Sp := fun vs H Q E => ∃ (p : Addr) (m : TM) (X : Addr → Prop) (i : Int) (v : V) (d : PyData), vs = [.ref p, .int i, v] ∧ TkM K C Cp H p m X ∧ i.natAbs.log2 < 1920 ∧ Dp K H v d ∧
  (pcOf m i = none → ∀ d' H', H d' = none → Ex H H' → H' d' = some (.xd [("number", .int i)]) → E (.ref CN) (some d') H') ∧
  (∀ x, pcOf m i = some x → x.came.isSome = true → ∀ H', Ex H H' → E (.ref CT) none H') ∧
  (∀ x, pcOf m i = some x → x.came = none → rowsB x.lo x.hi d = false → ∀ H', Ex H H' → E (.ref CR) none H') ∧
  (∀ x rs, pcOf m i = some x → x.came = none → rowsB x.lo x.hi d = true → d = rowsD rs → ∀ H', TOut K C Cp H p X { m with pcs := m.pcs.map (upP i (cmP rs)) } H' → Q .non H')
def spAskX (K : PySem.W.Frag) (C Cp CT CS : Addr) : Sp := fun vs H Q E => ∃ (p : Addr) (m : TM) (X : Addr → Prop) (i a b : Int), vs = [.ref p, .int i, .int a, .int b] ∧ TkM K C Cp H p m X ∧ m.nums.length ≤ 10000 ∧ m.pcs.length ≤ 10000 ∧
  (i ∈ m.nums → ∀ H', Ex H H' → E (.ref CT) none H') ∧
  (i ∉ m.nums → ¬ (0 ≤ a ∧ a < b ∧ b ≤ 1000) → ∀ H', Ex H H' → E (.ref CS) none H') ∧
  (i ∉ m.nums → (0 ≤ a ∧ a < b ∧ b ≤ 1000) → ∀ H', TOut K C Cp H p X { m with pcs := m.pcs ++ [⟨i, a, b, false, none⟩], nums := m.nums ++ [i] } H' → Q .non H')
section
variable {P : Program} {w : World} {K : PySem.W.Frag} {mg : Str → Option Value} {base : Heap}
set_option maxHeartbeats 1000000 in
theorem ok_apcX {f C Cp : Addr} {fd : FuncData} {CN : Addr} {kE k : Nat} (F : Fun K "asked_piece" "Taker.asked_piece" mApc f fd) (T : Txt K mg C) (T2 : TxtP K mg Cp) (dE : OwnE P w K mg base "NotAsked" CN ["self", "number"] kE (spX1 CN "number")) (hE : kE + 1 ≤ k) : FnOk P w K mg base (L2N.CX P w) (k + 1) f fd ["self", "number"] (spApcX K C Cp CN) := by
  refine okN F smApc (fun vs H Q E h => ?_) (fun cdv A outer s H vs Q E hr h => ?_)
  · obtain ⟨p, d, g, pp, nn, kvs, gv, l, m, i, rfl, _⟩ := h
    rfl
  · obtain ⟨p, d, g, pp, nn, kvs, gv, l, m, i, rfl, B, hb, q1, q2⟩ := h
    refine ⟨_, (pss_cons (ps_if (pt_cmp (pc_dnotin (hu_of hr) (pv 1) (pe_fld (pv 0) rfl))) (pss_one (ps_raiseE dE rfl (L2N.takes_of rfl rfl rfl rfl) hr hE (by rfl) (pa_cons (pv 1) pa_nil))) pss_nil)
      (pss_one (ps_ret (pe_dget (hu_of hr) (pe_fld (pv 0) rfl) (pv 1) (fun _ _ => rfl))))), ?_⟩
    obtain ⟨dx, hp⟩ := B.at'.ob
    have ht : EvT (tTest (tDNotIn (tVar 1) (tFld K (tVar 0) "pieces"))) [some (.ref p), some (.int i)] H (!(valV (pcV l) (.inl i)).isSome) := fun G x Q' q' => ⟨.int i, rfl, .ref p, rfl, p, C, dx, _, _, rfl, x _ _ hp, T.cl, T.aP, fl_pieces _ _ _ _ _ _ , pp, _, rfl, DGet.k (k := .inl i) (x _ _ B.pp'), _, rfl, q' G (Ex.refl G)⟩
    rcases pcV_val B i with ⟨h1, h2⟩ | ⟨t, mt, en, h1, h2⟩
    · rw [h2] at ht
      exact s_seq (s_if ht (fun _ H1 x1 => raise_go (ea_cons (ev_var rfl) ea_nil) hb fun d' H2 nd x2 h2 => q1 h1 d' H2 (fresh_back x1 nd) (x1.trans x2) h2) fun z => by cases z)
    · rw [h2] at ht
      exact s_seq (s_if ht (fun z => by cases z) fun _ H1 x1 => s_next ⟨_, rfl, p, C, dx, _, _, rfl, x1 _ _ hp, T.cl, T.aP, fl_pieces _ _ _ _ _ _ , .int i, rfl, pp, .ref t.2, rfl, by rw [← h2]; exact DGet.k (k := .inl i) (x1 _ _ B.pp'), q2 t mt en h1 H1 x1⟩)
set_option maxHeartbeats 1000000 in
theorem ok_gup {f C Cp : Addr} {fd : FuncData} {CN : Addr} {kA k : Nat} (F : Fun K "give_up" "Taker.give_up" mGup f fd) (T : Txt K mg C) (T2 : TxtP K mg Cp) (dA : MethX P w K mg base C "asked_piece" ["self", "number"] kA (spApcX K C Cp CN)) (hA : kA ≤ k) : FnOk P w K mg base (L2N.CX P w) (k + 1) f fd ["self", "number"] (spGup K C Cp CN) := by
  refine okN F smGup (fun vs H Q E h => ?_) (fun cdv A outer s H vs Q E hr h => ?_)
  · obtain ⟨p, m, X, i, rfl, _⟩ := h
    rfl
  · obtain ⟨p, m, X, i, rfl, S, hb, q1, q2⟩ := h
    refine ⟨_, (pss_cons (ps_expr (pe_methX dA (L2N.takes_of rfl rfl rfl rfl) hr hA T.cl (pv 0) (pa_cons (pv 1) pa_nil)))
      (pss_one (ps_ddel (pe_fld (pv 0) rfl) (pv 1)))), ?_⟩
    obtain ⟨d, g, pp, nn, kvs, gv, l, B, fx⟩ := S
    obtain ⟨dx, hp⟩ := B.at'.ob
    refine s_seq ⟨.ref p, rfl, p, dx, _, rfl, hp, no_asked_piece _ _ _ _ _ _ , .int i, rfl, p, d, g, pp, nn, kvs, gv, l, m, i, rfl, B, hb, q1, fun t mt en hx H1 x1 => ?_⟩
    have B1 := B.keep (fun a o _ h => x1 a o h) (Kt.ex x1)
    have hv : (valV (pcV l) (.inl i)).isSome = true := by
      rcases pcV_val B i with ⟨h1, _⟩ | ⟨t', _, _, _, h2⟩
      · rw [hx] at h1
        cases h1
      · rw [h2]
        rfl
    dsimp only
    refine ⟨_, rfl, p, C, dx, _, _, rfl, x1 _ _ hp, T.cl, T.aP, fl_pieces _ _ _ _ _ _ , .int i, rfl, pp, _, .inl i, rfl, B1.pp', rfl, hv, ?_⟩
    exact q2 t.1 hx _ ⟨fun a => a ∈ fpT p d g pp nn (l.filter fun t => !decide (t.1.num = i)), ⟨d, g, pp, nn, kvs, gv, _, B1.pdel i, fun a => Iff.rfl⟩, fun a o n h => (upd_ne fun (y : a = pp) => n ((fx a).mpr (y ▸ ft_pp))).trans (x1 _ _ h), fun a h => .inl ((fx a).mpr ((fpT_sub List.filter_sublist).subset h))⟩
end
end K27
namespace K27
open PySem L2 PyProof.Rows Tc Evl
theorem fpT_map {p d g pp nn : Addr} {l : List (Pce × Addr)} {n : Int} {gg : Pce → Pce} : fpT p d g pp nn (l.map (upQ n gg)) = fpT p d g pp nn l := by
  unfold fpT
  rw [List.map_map]
  rfl
theorem TkB.mout {K : PySem.W.Frag} {C Cp : Addr} {H H1 H' : Hp} {p d g pp nn : Addr} {kvs : List (Key × V)} {gv : List V} {l : List (Pce × Addr)} {m' : TM} {X : Addr → Prop} {n : Int} {gg : Pce → Pce} {t : Pce × Addr} (B : TkB K C Cp H' p d g pp nn kvs gv (l.map (upQ n gg)) m') (ht : t ∈ l) (fx : ∀ a, X a ↔ a ∈ fpT p d g pp nn l) (x : Ex H H1) (e : ∀ a o, a ≠ t.2 → H1 a = some o → H' a = some o) : TOut K C Cp H p X m' H' :=
  ⟨X, ⟨d, g, pp, nn, kvs, gv, _, B, fun a => by rw [fpT_map]; exact fx a⟩, fun a o n h => e a o (fun z => n ((fx a).mpr (z ▸ ft_q ht))) (x a o h), fun a h => .inl h⟩
theorem came_non {K : PySem.W.Frag} {H : Hp} {cv : V} {o : Option (List (Int × Int))} (h : cameV K H cv o) : (!decide (cv = V.non)) = o.isSome := by
  cases o with
  | none =>
    rw [show cv = V.non from h]
    rfl
  | some rs =>
    cases (show Dp K H cv (rowsD rs) from h) with
    | tup _ _ => rfl
theorem pc_kt {Cp : Addr} {H : Hp} {q t dq : Addr} {uw : Bool} {cv : V} {fs : List (Str × V)} (hq : H q = some (.ins Cp dq (pfl t uw cv))) : Kt H (upd H q (.ins Cp dq fs)) := Kt.but (fun a => a = q) (fun a z => by
  subst z
  exact ⟨_, hq, (fun xs z => by cases z), fun o xs z => by cases z⟩) fun a o z h => by
  rw [upd_ne z]
  exact h
section
variable {P : Program} {w : World} {K : PySem.W.Frag} {mg : Str → Option Value} {base : Heap}
set_option maxHeartbeats 2000000 in
theorem ok_ansX {f C Cp : Addr} {fd : FuncData} {CN CT CR : Addr}  {kA kRs k : Nat} (F : Fun K "answer" "Taker.answer" mAns f fd) (T : Txt K mg C) (T2 : TxtP K mg Cp) (dA : MethX P w K mg base C "asked_piece" ["self", "number"] kA (spApcX K C Cp CN)) (hA : kA ≤ k) (F0 : ExcBaseFacts "ValueError" "ValueError.__new__" "ValueError.__init__" bm) (dT : OwnE0 K mg "Twice" CT bm) (dR : OwnE0 K mg "NoRows" CR bm) (dRs : Own P w K mg base "is_rows" ["thing", "first", "last"] kRs (spRowsT K)) (hRs : kRs ≤ k) : FnOk P w K mg base (L2N.CX P w) (k + 1) f fd ["self", "number", "rows"] (spAnsX K C Cp CN CT CR) := by
  refine okN F smAns (fun vs H Q E h => ?_) (fun cdv A outer s H vs Q E hr h => ?_)
  · obtain ⟨p, m, X, i, v, d0, rfl, _⟩ := h
    rfl
  · obtain ⟨p, m, X, i, v, d0, rfl, S, hb, dv, q1, q2, q3, q4⟩ := h
    refine ⟨_, (pss_cons (ps_set (i := 3) smAns.nd rfl (.inl rfl) (pe_methX dA (L2N.takes_of rfl rfl rfl rfl) hr hA T.cl (pv 0) (pa_cons (pv 1) pa_nil)))
      (pss_cons (ps_if (pt_cmpR op_notN1 (pe_fld (pv 3) rfl) pe_non (nomark _)) (pss_one (ps_raise0 F0 dT rfl (L2N.takes_of rfl rfl rfl rfl) (by rfl))) pss_nil)
      (pss_cons (ps_asg (pe_fld (pv 3) rfl) (pg_tup rfl (pgs_cons (pg_name (i := 4) smAns.nd rfl (.inl rfl)) (pgs_cons (pg_name (i := 5) smAns.nd rfl (.inl rfl)) pgs_nil))))
      (pss_cons (ps_if (pt_not (pt_val (pe_own dRs hr hRs (by rfl) (pa_cons (pv 2) (pa_cons (pv 4) (pa_cons (pv 5) pa_nil)))))) (pss_one (ps_raise0 F0 dR rfl (L2N.takes_of rfl rfl rfl rfl) (by rfl))) pss_nil)
      (pss_one (ps_fld (pv 3) (pv 2) rfl)))))), ?_⟩
    obtain ⟨d, g, pp, nn, kvs, gv, l, B, fx⟩ := S
    obtain ⟨dx, hp⟩ := B.at'.ob
    refine s_seq (t_asg ⟨.ref p, rfl, p, dx, _, rfl, hp, no_asked_piece _ _ _ _ _ _ , .int i, rfl, p, d, g, pp, nn, kvs, gv, l, m, i, rfl, B, hb, q1, fun t mt en hx H1 x1 => g_name ?_⟩)
    subst en
    replace q2 := q2 t.1 hx
    replace q3 := q3 t.1 hx
    replace q4 := fun rs => q4 t.1 rs hx
    have B1 := B.keep (fun a o _ h => x1 a o h) (Kt.ex x1)
    obtain ⟨tt, cv, ⟨dq, hq⟩, hts, hcv⟩ := B1.pc t mt
    have hcn := came_non hcv
    try dsimp only
    have tc : EvT (tTest (tOp rNotN (tFld K (tVar 3) "came") (tC .non))) [some (.ref p), some (.int t.1.num), some v, some (.ref t.2), none, none] H1 t.1.came.isSome := fun G x Q' q' => ⟨_, rfl, t.2, Cp, dq, _, _, rfl, x _ _ hq, T2.cl, T2.nC, pl_came _ _ _, rfl, t.1.came.isSome, by rw [hcn], q' G (Ex.refl G)⟩
    refine s_seq (s_if tc (fun z H2 x2 => q2 z H2 (x1.trans x2)) fun z H2 x2 => s_next ?_)
    have cn : t.1.came = none := by
      cases h : t.1.came with
      | none => rfl
      | some r => rw [h] at z; cases z
    replace q3 := q3 cn
    replace q4 := fun rs => q4 rs cn
    have x12 := x1.trans x2
    have po : PcOk t.1 := B.po t.1 (by rw [← B.pl]; exact List.mem_map.mpr ⟨t, mt, rfl⟩)
    try dsimp only
    refine s_seq ⟨_, rfl, t.2, Cp, dq, _, _, rfl, x2 _ _ hq, T2.cl, T2.nS, pl_stretch _ _ _, tt, _, rfl, Evl.ex_t x2 hts, rfl, _, _, rfl, _, _, rfl, rfl, ?_⟩
    try dsimp only
    refine s_seq (s_if (b := !rowsB t.1.lo t.1.hi d0) (et_not (et_B fun G x Q' q' => ⟨v, rfl, .int t.1.lo, rfl, .int t.1.hi, rfl, v, d0, t.1.lo, t.1.hi, rfl, dp_same (x12.trans x) _ _ dv, fun G2 y2 => q' G2 y2⟩)) (fun z H3 x3 => ?_) fun z H3 x3 => s_next ?_)
    · exact q3 (by simpa using z) H3 (x12.trans x3)
    have rb : rowsB t.1.lo t.1.hi d0 = true := by simpa using z
    obtain ⟨rs, rfl, rin, rup⟩ := rowsB_rs po.a rb
    replace q4 := q4 rs rb rfl
    have x13 := x12.trans x3
    have x23 := x2.trans x3
    have B3 := B.keep (fun a o _ h => x13 a o h) (Kt.ex x13)
    have hq3 := x23 _ _ hq
    try dsimp only
    refine ⟨v, rfl, .ref t.2, rfl, t.2, Cp, dq, _, rfl, hq3, T2.cl, T2.nC, by show 3 < 1000; decide, ?_⟩
    rw [pfl_came]
    have kt := pc_kt (fs := pfl tt t.1.uw v) hq3
    have e : ∀ a o, a ≠ t.2 → H3 a = some o → (upd H3 t.2 (.ins Cp dq (pfl tt t.1.uw v))) a = some o := fun a o n h => by
      rw [upd_ne n]
      exact h
    have B4 := B3.pmap mt (cmP rs) (fun x => rfl) ⟨po.a, po.b, po.c, fun rs' er => by cases er; exact ⟨rin, rup⟩⟩ ⟨tt, v, ⟨dq, upd_same⟩, kt.t (Evl.ex_t x23 hts), kt.dp 2 _ _ (nl_rows rs) (dp_same x13 _ _ dv)⟩ e
    exact q4 _ (B4.mout mt fx x13 e)
set_option maxHeartbeats 2000000 in
theorem ok_askX {f C Cp : Addr} {fd : FuncData} {CT CS fP : Addr} {fdP : FuncData}  {kP kSt k : Nat} (F : Fun K "ask" "Taker.ask" mAsk f fd) (T : Txt K mg C) (T2 : TxtP K mg Cp) (F0 : ExcBaseFacts "ValueError" "ValueError.__new__" "ValueError.__init__" bm) (dT : OwnE0 K mg "Twice" CT bm) (dS : OwnE0 K mg "NoStretch" CS bm) (mkP : Mk K Cp fP) (FP : FnOk P w K mg base CX0 kP fP fdP ["self", "first", "last"] (spPc Cp)) (bP : Binds K fdP ["self", "first", "last"] []) (hP : kP + 1 ≤ k) (dSt : Own P w K mg base "is_stretch" ["first", "last"] kSt spStr1) (hSt : kSt ≤ k) : FnOk P w K mg base (L2N.CX P w) (k + 1) f fd ["self", "number", "first", "last"] (spAskX K C Cp CT CS) := by
  refine okN F smAsk (fun vs H Q E h => ?_) (fun cdv A outer s H vs Q E hr h => ?_)
  · obtain ⟨p, m, X, i, a, b, rfl, _⟩ := h
    rfl
  · obtain ⟨p, m, X, i, a, b, rfl, S, nl, pl, q1, q2, q3⟩ := h
    refine ⟨_, (pss_cons (ps_if (pt_cmp (pc_din (hu_of hr) (pv 1) (pe_fld (pv 0) rfl))) (pss_one (ps_raise0 F0 dT rfl (L2N.takes_of rfl rfl rfl rfl) (by rfl))) pss_nil)
      (pss_cons (ps_if (pt_not (pt_val (pe_own dSt hr hSt (by rfl) (pa_cons (pv 2) (pa_cons (pv 3) pa_nil))))) (pss_one (ps_raise0 F0 dS rfl (L2N.takes_of rfl rfl rfl rfl) (by rfl))) pss_nil)
      (pss_cons (ps_dput (hu_of hr) (pe_fld (pv 0) rfl) (pv 1) pe_bl rfl)
      (pss_one (ps_dput (hu_of hr) (pe_fld (pv 0) rfl) (pv 1) (pe_make mkP FP (hr.mono hP) (by rfl) T2.mgP bP .nil pass0 (pa_cons (pv 2) (pa_cons (pv 3) pa_nil))) rfl))))), ?_⟩
    obtain ⟨d, g, pp, nn, kvs, gv, l, B, fx⟩ := S
    have N := fpT_n B.nd
    obtain ⟨dx, hp⟩ := B.at'.ob
    have ht : EvT (tTest (tDIn (tVar 1) (tFld K (tVar 0) "numbers"))) [some (.ref p), some (.int i), some (.int a), some (.int b)] H (decide (i ∈ m.nums)) := fun G x Q' q' => by
      refine ⟨.int i, rfl, .ref p, rfl, p, C, dx, _, _, rfl, x _ _ hp, T.cl, T.aN, fl_numbers _ _ _ _ _ _ , nn, _, rfl, DGet.k (k := .inl i) (x _ _ B.nn'), _, rfl, ?_⟩
      rw [nuV_val]
      by_cases z : i ∈ m.nums
      · rw [if_pos z, decide_eq_true z] at *
        exact q' G (Ex.refl G)
      · rw [if_neg z, decide_eq_false z] at *
        exact q' G (Ex.refl G)
    refine s_seq (s_if ht (fun z H1 x1 => q1 (of_decide_eq_true z) H1 x1) fun z H1 x1 => s_next ?_)
    have ni := of_decide_eq_false z
    replace q2 := q2 ni
    replace q3 := q3 ni
    try dsimp only
    refine s_seq (s_if (b := !(decide (0 ≤ a) && (decide (a < b) && decide (b ≤ 1000)))) (et_not (et_B (fun G _ Q' q' => ⟨.int a, rfl, .int b, rfl, a, b, rfl, fun G2 x2 => q' G2 x2⟩))) (fun z H2 x2 => ?_) fun z H2 x2 => s_next ?_)
    · exact q2 (fun y => by rw [decide_eq_true y.1, decide_eq_true y.2.1, decide_eq_true y.2.2] at z; cases z) H2 (x1.trans x2)
    have gs : 0 ≤ a ∧ a < b ∧ b ≤ 1000 := by
      simp only [Bool.not_eq_false', Bool.and_eq_true, decide_eq_true_eq] at z
      exact z
    replace q3 := q3 gs
    have x12 := x1.trans x2
    have B2 := B.keep (fun a o _ h => x12 a o h) (Kt.ex x12)
    have ln : (nuV m.nums).length ≤ 10000 := by
      unfold nuV
      rw [List.length_map]
      exact nl
    have lp : (pcV l).length ≤ 10000 := by
      unfold pcV
      rw [List.length_map, ← List.length_map (f := (·.1)), B.pl]
      exact pl
    try dsimp only
    refine s_seq ⟨_, rfl, p, C, dx, _, _, rfl, x12 _ _ hp, T.cl, T.aN, fl_numbers _ _ _ _ _ _ , .int i, rfl, nn, _, rfl, DPut.k (k := .inl i) B2.nn' (sz_lt (by omega)), ?_⟩
    have e3 : ∀ a o, a ≠ nn → H2 a = some o → (upd H2 nn (.dK (putK (nuV m.nums) (.inl i) (.bl true)))) a = some o := fun a o n h => by
      rw [upd_ne n]
      exact h
    have h3 : (upd H2 nn (.dK (putK (nuV m.nums) (.inl i) (.bl true)))) nn = some (.dK (putK (nuV m.nums) (.inl i) (.bl true))) := upd_same
    have f3 : ∀ x, (upd H2 nn (.dK (putK (nuV m.nums) (.inl i) (.bl true)))) x = none → H2 x = none := fun x hx => by
      rw [upd_ne fun z => by rw [z, upd_same] at hx; cases hx] at hx
      exact hx
    generalize upd H2 nn (.dK (putK (nuV m.nums) (.inl i) (.bl true))) = H3 at e3 h3 f3 ⊢
    try dsimp only
    refine ⟨.int a, rfl, .int b, rfl, fun q dq hq hdq dqq => ?_⟩
    have w1 : Ex H3 (upd (upd H3 dq (.own q)) q (.ins Cp dq [])) := (Ex.new hdq).trans (Ex.new (by rw [upd_ne dqq.symm]; exact hq))
    have w2 : (upd (upd H3 dq (.own q)) q (.ins Cp dq [])) q = some (.ins Cp dq []) := upd_same
    generalize upd (upd H3 dq (.own q)) q (.ins Cp dq []) = H4 at w1 w2 ⊢
    refine ⟨q, dq, a, b, rfl, w2, fun t H5 ht5 keep hq5 hts => ⟨rfl, ?_⟩⟩
    have xq : ∀ {x : Addr} {u : HO}, H3 x = some u → H5 x = some u := fun {x u} h => keep x u (fun z => by
      rw [z, hq] at h
      cases h) (w1 x u h)
    have hp5 := xq (e3 _ _ N.a4 (x12 _ _ hp))
    have hpp5 := xq (e3 _ _ N.e1 (x12 _ _ B.pp'))
    have hnn5 := xq h3
    refine ⟨_, rfl, p, C, dx, _, _, rfl, hp5, T.cl, T.aP, fl_pieces _ _ _ _ _ _ , .int i, rfl, pp, _, rfl, DPut.k (k := .inl i) hpp5 (sz_lt (by omega)), ?_⟩
    have nq2 : H2 q = none := f3 q hq
    have qpp : q ≠ pp := fun z => by
      rw [z, x12 _ _ B.pp'] at nq2
      cases nq2
    have tpp : t ≠ pp := fun z => by
      rw [z, hpp5] at hts
      cases hts
    have e6 : ∀ a o, a ≠ pp → H5 a = some o → (upd H5 pp (.dK (putK (pcV l) (.inl i) (.ref q)))) a = some o := fun a o n h => by
      rw [upd_ne n]
      exact h
    obtain ⟨dq', hq5'⟩ := hq5
    have eA : ∀ a o, a ≠ pp → a ≠ nn → H2 a = some o → (upd H5 pp (.dK (putK (pcV l) (.inl i) (.ref q)))) a = some o := fun a o n1 n2 h => e6 a o n1 (xq (e3 a o n2 h))
    have B6 := B2.pnew (x := ⟨i, a, b, false, none⟩) nq2 ni ⟨gs.1, gs.2.1, gs.2.2, fun rs er => by cases er⟩ ⟨t, .non, ⟨dq', e6 _ _ qpp hq5'⟩, st_of (e6 _ _ tpp hts), rfl⟩ eA upd_same (e6 _ _ N.e1.symm hnn5)
    have ea : ∀ c, c ∈ fpT p d g pp nn (l ++ [((⟨i, a, b, false, none⟩ : Pce), q)]) → c ∈ fpT p d g pp nn l ∨ c = q := fun c hc => by
      have : fpT p d g pp nn (l ++ [((⟨i, a, b, false, none⟩ : Pce), q)]) = fpT p d g pp nn l ++ [q] := by
        unfold fpT
        rw [List.map_append]
        rfl
      rw [this] at hc
      rcases List.mem_append.mp hc with hc | hc
      · exact .inl hc
      · exact .inr (List.mem_singleton.mp hc)
    exact q3 _ ⟨_, ⟨d, g, pp, nn, kvs, gv, _, B6, fun a => Iff.rfl⟩, fun c o n h => eA c o (fun z => n ((fx c).mpr (z ▸ ft_pp))) (fun z => n ((fx c).mpr (z ▸ ft_nn))) (x12 c o h), fun c hc => by
      rcases ea c hc with hc | rfl
      · exact .inl ((fx c).mpr hc)
      · exact .inr (fresh_back x12 nq2)⟩
end
end K27
namespace K27
open PySem L2 PyProof.Rows Tc Evl
section
variable {P : Program} {w : World} {K : PySem.W.Frag} {mg : Str → Option Value} {base : Heap}
/-- a copy given out -/
def cpD (at' : Int) (r : Int × Int) : PyData := .tuple [.int (at' + 1), .str "copy", .int r.1, .int r.2]
theorem nl_cp (at' : Int) (r : Int × Int) : nl 1 (cpD at' r) = true := rfl
def copiesOf (rs : List (Int × Int)) (ks : List Int) : List (Int × Int) := ks.filterMap fun k => (fRows rs k).map fun z => (k, z)
theorem copies_snoc (rs : List (Int × Int)) (ks : List Int) (k : Int) : copiesOf rs (ks ++ [k]) = match fRows rs k with
    | some z => copiesOf rs ks ++ [(k, z)]
    | none => copiesOf rs ks := by
  unfold copiesOf
  rw [List.filterMap_append]
  cases e : fRows rs k with
  | none =>
    rw [List.filterMap_cons_none (by rw [e]; rfl)]
    exact List.append_nil _
  | some z =>
    rw [List.filterMap_cons_some (by rw [e]; rfl)]
    rfl
theorem copies_len (rs : List (Int × Int)) (ks : List Int) : (copiesOf rs ks).length ≤ ks.length := List.length_filterMap_le _ _
theorem new_len (f : Kn) (a b : Int) : (newKeys f a b).length ≤ (b - a).toNat := by
  unfold newKeys
  rw [List.length_map]
  exact Nat.le_trans (List.length_filter_le _ _) (by simp)
def spCopy (K : PySem.W.Frag) (C Cp : Addr) : Sp := fun vs H Q _ => ∃ (p d g pp nn q t rw' : Addr) (life at' n a b : Int) (kvs : List (Key × V)) (f : Kn) (gv : List V) (es : List PyData) (pkv : List (Key × V)) (rs : List (Int × Int)), vs = [.ref p, .ref q] ∧ TkAt C H p d g pp nn life at' kvs gv ∧ KD kvs f ∧ DpAll K H gv es ∧ (∀ e ∈ es, nl 1 e = true) ∧ es.length ≤ 5000 ∧ PcAt Cp H q t true (.ref rw') ∧ SqT K H t [.int a, .int b] ∧ Dp K H (.ref rw') (rowsD rs) ∧ (0 ≤ a ∧ a ≤ b ∧ b ≤ 1000) ∧ rs.length ≤ 1000 ∧
  ∀ kvs' gv' H', Off2 d g H H' → TkAt C H' p d g pp nn life at' kvs' gv' → KD kvs' (learnP f a b rs) → DpAll K H' gv' (es ++ (copiesOf rs (newKeys f a b)).map (cpD at')) → Q .non H'
end
section
variable {P : Program} {w : World} {K : PySem.W.Frag} {mg : Str → Option Value} {base : Heap}
abbrev mCopy : Stmt := inClass sTaker 6
theorem scCopy : FnScope ["self", "piece", "key"] ["self", "piece"] (defScope mCopy) := ⟨rfl, rfl, rfl, by decide +kernel, rfl, by decide +kernel, by decide +kernel⟩
set_option maxHeartbeats 1000000 in
theorem ok_copy {f C Cp fG : Addr} {fd fdG : FuncData} {kLp kG k : Nat} (F : Fun K "copy_piece" "Taker.copy_piece" mCopy f fd) (T : Txt K mg C) (T2 : TxtP K mg Cp) (dLp : Own P w K mg base "learn_piece" ["known", "stretch", "rows"] kLp (spLp K)) (hLp : kLp ≤ k) (FG : FnOk P w K mg base CX0 kG fG fdG ["self", "word", "key"] (spGive C)) (bG : Binds K fdG ["self", "word", "key"] []) (mG : Meth K C "give_out" fG) (hG : kG ≤ k) :
    FnOk P w K mg base CX0 (k + 1) f fd ["self", "piece"] (spCopy K C Cp) := by
  refine F.ok scCopy (fun vs H Q E h => ?_) (fun cdv A outer s H vs Q E hr h => ?_)
  · obtain ⟨p, d, g, pp, nn, q, t, rw', life, at', n, a, b, kvs, f, gv, es, pkv, rs, rfl, _⟩ := h
    rfl
  · obtain ⟨p, d, g, pp, nn, q, t, rw', life, at', n, a, b, kvs, f, gv, es, pkv, rs, rfl, S, kd, dE, nE, el, ⟨dq, hq⟩, ht, hrw, hab, rl, k⟩ := h
    refine ⟨_, (pss_one (ps_for PassesOwn.never rfl (pi_list (pe_own dLp hr hLp (by rfl) (pa_cons (pe_fld (pv 0) rfl) (pa_cons (pe_fld (pv 1) rfl) (pa_cons (pe_fld (pv 1) rfl) pa_nil))))) (pg_name (i := 2) scCopy.nd rfl (.inl rfl)) (pss_one (ps_if (pt_cmpR op_notN1 (pe_dget (hu_of hr) (pe_fld (pv 0) rfl) (pv 2) (fun _ _ => rfl)) pe_non (nomark _)) (pss_one (ps_expr (pe_meth (pv 0) T.cl mG FG (hr.mono hG) bG .nil pass0 (pa_cons pe_str (pa_cons (pv 2) pa_nil))))) pss_nil)))), ?_⟩
    obtain ⟨dx, hp⟩ := S.ob
    refine ⟨_, rfl, p, C, dx, _, _, rfl, hp, T.cl, T.aK, fl_known _ _ _ _ _ _, _, rfl, q, Cp, dq, _, _, rfl, hq, T2.cl, T2.nS, pl_stretch _ _ _, _, rfl, q, Cp, dq, _, _, rfl, hq, T2.cl, T2.nC, pl_came _ _ _, d, t, kvs, f, .ref rw', rs, a, b, rfl, S.dc, kd, ht, hab.1, hab.2.1, hab.2.2, hrw, by omega, fun l kvs1 H1 nl1 b1 hl1 hd1 kd1 => ⟨l, rfl, ⟨_, sq_of hl1⟩, ?_⟩⟩
    have gd : g ≠ d := fun z => by
      have := S.gl
      rw [z, S.dc] at this
      cases this
    have lg : l ≠ g := fun z => by
      rw [z, S.gl] at nl1
      cases nl1
    have S1 : TkAt C H1 p d g pp nn life at' kvs1 gv := S.off (fun x u h1 _ z => b1 x u h1 z) hd1 (b1 _ _ gd S.gl)
    have dE1 := dps_bar S.dc b1 _ _ dE
    have nk := new_len f a b
    refine for_list (K := K) (a := l) (xs := (newKeys f a b).map V.int) (fun j σ' G => ∃ y2 gv', σ' = [some (.ref p), some (.ref q), y2] ∧ Bar g H1 G ∧ TkAt C G p d g pp nn life at' kvs1 gv' ∧ DpAll K G gv' (es ++ (copiesOf rs ((newKeys f a b).take j)).map (cpD at'))) ⟨none, gv, rfl, Bar.refl g H1, S1, by rw [List.take_zero]; show DpAll K H1 gv (es ++ []); rw [List.append_nil]; exact dE1⟩ (fun j σ' G _ ⟨_, _, _, bb, _⟩ => sq_of (bb _ _ lg hl1)) (fun j x σ' G hx p' => ?_) (fun σ' G p' => ?_)
    · obtain ⟨y2, gv', rfl, bb, S', dE'⟩ := p'
      rw [List.getElem?_map] at hx
      obtain ⟨kk, hkk, rfl⟩ := Option.map_eq_some_iff.mp hx
      obtain ⟨k1, k2, k3⟩ := mem_new.mp (List.mem_of_getElem? hkk)
      have hv : valV kvs1 (.inl kk) = some (optV (fRows rs kk)) := by
        rw [kd1.val]
        unfold learnP
        rw [if_pos ⟨k1, k2, k3⟩]
        rfl
      have cs := copies_snoc rs ((newKeys f a b).take j) kk
      rw [← take_rows _ hkk] at cs
      refine g_name ?_
      dsimp only
      have tt : EvT (tTest (tOp rNotN (tDGet (tFld K (tVar 0) "known") (tVar 2)) (tC .non))) [some (.ref p), some (.ref q), some (.int kk)] G (fRows rs kk).isSome := fun G1 x1 Q' q' => by
        have SG := S'.ex x1
        obtain ⟨dxG, hpG⟩ := SG.ob
        refine ⟨_, rfl, p, C, dxG, _, _, rfl, hpG, T.cl, T.aK, fl_known _ _ _ _ _ _, .int kk, rfl, d, optV (fRows rs kk), rfl, by rw [← hv]; exact DGet.k (k := .inl kk) SG.dc, rfl, (fRows rs kk).isSome, ?_, q' G1 (Ex.refl G1)⟩
        cases fRows rs kk <;> simp [optV]
      refine s_if tt (fun c G2 x2 => ?_) (fun c G2 x2 => s_next ?_)
      · obtain ⟨z, hz⟩ := Option.isSome_iff_exists.mp c
        rw [hz] at hv cs
        have S2 := S'.ex x2
        obtain ⟨dx2, hp2⟩ := S2.ob
        have gl2 : gv'.length ≤ 10000 := by
          rw [dps_len dE', List.length_append, List.length_map]
          have h1 := copies_len rs ((newKeys f a b).take j)
          rw [List.length_take] at h1
          omega
        refine ⟨_, rfl, p, dx2, _, rfl, hp2, no_give_out _ _ _ _ _ _, .int kk, rfl, p, d, g, pp, nn, life, at', kk, kvs1, gv', "copy", _, rfl, S2, hv, gl2, fun t3 ht3 => ?_⟩
        have x3 : Ex G2 (upd G2 t3 (.tup [.int (at' + 1), .str "copy", .int kk, optV (some z)])) := Ex.new ht3
        have h3 : (upd G2 t3 (.tup [.int (at' + 1), .str "copy", .int kk, optV (some z)])) t3 = some (.tup [.int (at' + 1), .str "copy", .int kk, optV (some z)]) := upd_same
        generalize upd G2 t3 (.tup [.int (at' + 1), .str "copy", .int kk, optV (some z)]) = G3 at x3 h3 ⊢
        have x13 := x2.trans x3
        have g3 := x13 _ _ S'.gl
        have b4 : Bar g G3 (upd G3 g (.lst (gv' ++ [.ref t3]))) := (Bar.refl g G3).put
        have nlE : ∀ e ∈ es ++ (copiesOf rs ((newKeys f a b).take j)).map (cpD at'), nl 1 e = true := fun e m => by
          rcases List.mem_append.mp m with m | m
          · exact nE e m
          · obtain ⟨r, _, rfl⟩ := List.mem_map.mp m
            rfl
        refine ⟨_, gv' ++ [.ref t3], rfl, (bb.trans (Bar.ex x13)).trans b4, (S'.ex x13).off (fun x u _ h2 h => b4 x u h2 h) (b4 _ _ gd.symm (x13 _ _ S'.dc)) upd_same, ?_⟩
        rw [cs, List.map_append, ← List.append_assoc]
        exact dps_app (dps_each (fun e m v => dp_nl g3 b4 1 e v (nlE e m)) (dps_same x13 _ _ dE')) (.cons (dp_nl g3 b4 1 _ _ rfl (.tup (st_of h3) (.cons (.int _) (.cons (.str _) (.cons (.int _) (.cons (.int z) .nil)))))) .nil)
      · have hz : fRows rs kk = none := by
          cases e : fRows rs kk with
          | none => rfl
          | some z => rw [e] at c; cases c
        rw [hz] at cs
        exact ⟨_, gv', rfl, bb.trans (Bar.ex x2), S'.ex x2, by rw [cs]; exact dps_same x2 _ _ dE'⟩
    · obtain ⟨y2, gv', rfl, bb, S', dE'⟩ := p'
      rw [List.length_map, List.take_length] at dE'
      exact k kvs1 gv' G (fun x u m1 m2 h => bb x u m2 (b1 x u m1 h)) S' kd1 dE'
end
abbrev mMark : Stmt := inClass sTaker 5
abbrev mTake : Stmt := inClass sTaker 3
theorem smMark : FnScope ["self", "word", "number", "piece"] ["self", "word", "number"] (defScope mMark) := ⟨rfl, rfl, rfl, by decide +kernel, rfl, by decide +kernel, by decide +kernel⟩
theorem smTake : FnScope ["self", "entry"] ["self", "entry"] (defScope mTake) := ⟨rfl, rfl, rfl, by decide +kernel, rfl, by decide +kernel, by decide +kernel⟩
def wayP (x : Pce) : Pce := { x with uw := true }
/-- a mark of a piece that is asked for, taken -/
def tkMark (m : TM) (w : Str) (x : Pce) : Option TM :=
  if w = "low" then some { m with pcs := m.pcs.map (upP x.num wayP) }
  else if x.uw = true then (match x.came with
    | none => none
    | some rs => some { m with f := learnP m.f x.lo x.hi rs, ev := m.ev ++ (copiesOf rs (newKeys m.f x.lo x.hi)).map (cpD m.at'), pcs := m.pcs.filter fun y => !decide (y.num = x.num) })
  else some { m with pcs := m.pcs.filter fun y => !decide (y.num = x.num) }
def onT (m : TM) : TM := { m with at' := m.at' + 1 }
/-- an entry taken -/
def tTake (m : TM) : PyData → Option TM
  | .tuple [.str _, .tuple cs] => some { m with at' := m.at' + 1, f := learnCs m.f (cs.map chD), ev := m.ev ++ cs.map (evD m.at') }
  | .tuple [.str w, .int lf, .int n] => if lf = m.life then (match pcOf m n with
    | some x => (tkMark m w x).map onT
    | none => some (onT m)) else some (onT m)
  | _ => none
def numOf : PyData → Int
  | .tuple [.str _, .int _, .int n] => n
  | _ => 0
def spMarkX (K : PySem.W.Frag) (C Cp CW : Addr) : Sp := fun vs H Q E => ∃ (p : Addr) (m : TM) (X : Addr → Prop) (w : Str) (n : Int) (x : Pce), vs = [.ref p, .str w, .int n] ∧ TkM K C Cp H p m X ∧ pcOf m n = some x ∧ n.natAbs.log2 < 1920 ∧ m.ev.length ≤ 5000 ∧
  (tkMark m w x = none → ∀ d' H', H d' = none → Ex H H' → H' d' = some (.xd [("number", .int n)]) → E (.ref CW) (some d') H') ∧ (∀ m', tkMark m w x = some m' → ∀ H', TOut K C Cp H p X m' H' → Q .non H')
def spTakeX (K : PySem.W.Frag) (C Cp CW : Addr) : Sp := fun vs H Q E => ∃ (p : Addr) (m : TM) (X : Addr → Prop) (e : V) (d : PyData), vs = [.ref p, e] ∧ TkM K C Cp H p m X ∧ Dp K H e d ∧ goodEn allKs d = true ∧ (chsD d).length ≤ 100 ∧ (numOf d).natAbs.log2 < 1920 ∧ m.ev.length ≤ 5000 ∧
  (tTake m d = none → ∀ d' H', H d' = none → Ex H H' → H' d' = some (.xd [("number", .int (numOf d))]) → E (.ref CW) (some d') H') ∧ (∀ m', tTake m d = some m' → ∀ H', TOut K C Cp H p X m' H' → Q .non H')
theorem came_few {x : Pce} {rs : List (Int × Int)} (h : PcOk x) (e : x.came = some rs) : rs.length ≤ 1000 := by
  obtain ⟨h1, h2⟩ := h.r rs e
  have nd : (rs.map (·.1)).Nodup := by
    rw [List.Nodup, List.pairwise_map]
    exact h2.imp fun {a b} z e => by omega
  have := len_sub (m := allKs) nd fun k mk => by
    obtain ⟨r, mr, rfl⟩ := List.mem_map.mp mk
    have := h1 r mr
    have := h.a
    have := h.c
    exact allKs_mem (by omega) (by omega)
  rw [List.length_map, allKs_len] at this
  exact this
theorem TkB.inc {K : PySem.W.Frag} {C Cp dx : Addr} {H : Hp} {p d g pp nn : Addr} {kvs : List (Key × V)} {gv : List V} {l : List (Pce × Addr)} {m : TM} (B : TkB K C Cp H p d g pp nn kvs gv l m) (hp : H p = some (.ins C dx (flds m.life m.at' d g pp nn))) : TkB K C Cp (_root_.L2.upd H p (.ins C dx (flds m.life (m.at' + 1) d g pp nn))) p d g pp nn kvs gv l (onT m) := by
  have bp : ∀ a o, a ≠ p → H a = some o → (_root_.L2.upd H p (.ins C dx (flds m.life (m.at' + 1) d g pp nn))) a = some o := fun a o n h => by rw [upd_ne n]; exact h
  exact B.chg (fun a o n _ _ h => bp a o n h) B.at'.on B.kd (dps_o hp bp _ _ B.ev) B.eg
section
variable {P : Program} {w : World} {K : PySem.W.Frag} {mg : Str → Option Value} {base : Heap}
set_option maxHeartbeats 2000000 in
theorem ok_markX {f C Cp : Addr} {fd : FuncData} {CW fC : Addr} {fdC : FuncData}  {kW kC k : Nat} (F : Fun K "take_mark" "Taker.take_mark" mMark f fd) (T : Txt K mg C) (T2 : TxtP K mg Cp) (dW : OwnE P w K mg base "Waits" CW ["self", "number"] kW (spX1 CW "number")) (hW : kW + 1 ≤ k) (FC : FnOk P w K mg base CX0 kC fC fdC ["self", "piece"] (spCopy K C Cp)) (bC : Binds K fdC ["self", "piece"] []) (mC : Meth K C "copy_piece" fC) (hC : kC ≤ k) : FnOk P w K mg base (L2N.CX P w) (k + 1) f fd ["self", "word", "number"] (spMarkX K C Cp CW) := by
  refine okN F smMark (fun vs H Q E h => ?_) (fun cdv A outer s H vs Q E hr h => ?_)
  · obtain ⟨p, m, X, w, n, x, rfl, _⟩ := h
    rfl
  · obtain ⟨p, m, X, w, n, x, rfl, S, hx, hb, el, q1, q2⟩ := h
    refine ⟨_, (pss_cons (ps_set (i := 3) smMark.nd rfl (.inl rfl) (pe_dget (hu_of hr) (pe_fld (pv 0) rfl) (pv 2) (fun _ _ => rfl)))
      (pss_cons (ps_if (pt_cmpR op_eq (pv 1) pe_str (nomark _)) (pss_cons (ps_fld (pv 3) pe_bl rfl) (pss_one ps_retN)) pss_nil)
      (pss_cons (ps_if (pt_val (pe_fld (pv 3) rfl)) (pss_cons (ps_if (pt_cmpR op_isN1 (pe_fld (pv 3) rfl) pe_non (nomark _)) (pss_one (ps_raiseE dW rfl (L2N.takes_of rfl rfl rfl rfl) hr hW (by rfl) (pa_cons (pv 2) pa_nil))) pss_nil) (pss_one (ps_expr (pe_meth (pv 0) T.cl mC FC (hr.mono hC) bC .nil pass0 (pa_cons (pv 3) pa_nil))))) pss_nil)
      (pss_one (ps_ddel (pe_fld (pv 0) rfl) (pv 2)))))), ?_⟩
    obtain ⟨d, g, pp, nn, kvs, gv, l, B, fx⟩ := S
    have N := fpT_n B.nd
    obtain ⟨dx, hp⟩ := B.at'.ob
    obtain ⟨t, mt, en, et, hv⟩ : ∃ t ∈ l, t.1.num = n ∧ x = t.1 ∧ valV (pcV l) (.inl n) = some (.ref t.2) := by
      rcases pcV_val B n with ⟨h1, _⟩ | ⟨t, mt, en, h1, h2⟩
      · rw [hx] at h1
        cases h1
      · rw [hx] at h1
        exact ⟨t, mt, en, Option.some.inj h1, h2⟩
    subst et en
    obtain ⟨tt, cv, ⟨dq, hq⟩, hts, hcv⟩ := B.pc t mt
    have po : PcOk t.1 := B.po t.1 (by rw [← B.pl]; exact List.mem_map.mpr ⟨t, mt, rfl⟩)
    refine s_seq ⟨_, rfl, p, C, dx, _, _, rfl, hp, T.cl, T.aP, fl_pieces _ _ _ _ _ _ , .int t.1.num, rfl, pp, .ref t.2, rfl, by rw [← hv]; exact DGet.k (k := .inl t.1.num) B.pp', g_name ?_⟩
    try dsimp only
    by_cases hw : w = "low"
    · subst hw
      refine s_seq (s_if (b := true) (et_is (et_test (ev_op (ev_var rfl) ev_c (rv_eq rfl))) (by decide)) (fun _ H1 x1 => ?_) fun z => by cases z)
      have hq1 := x1 _ _ hq
      refine s_seq ⟨.ref t.2, rfl, t.2, Cp, dq, _, rfl, hq1, T2.cl, T2.nU, by show 3 < 1000; decide, ?_⟩
      rw [pfl_way]
      have B1 := B.keep (fun a o _ h => x1 a o h) (Kt.ex x1)
      have kt := pc_kt (fs := pfl tt true cv) hq1
      have e : ∀ a o, a ≠ t.2 → H1 a = some o → (upd H1 t.2 (.ins Cp dq (pfl tt true cv))) a = some o := fun a o n h => by
        rw [upd_ne n]
        exact h
      have B2 := B1.pmap mt wayP (fun x => rfl) ⟨po.a, po.b, po.c, po.r⟩ ⟨tt, cv, ⟨dq, upd_same⟩, kt.t (Evl.ex_t x1 hts), (hcv.kt (Kt.ex x1)).kt kt⟩ e
      exact q2 _ (by unfold tkMark; rw [if_pos rfl]) _ (B2.mout mt fx x1 e)
    have lm : ∀ y, tkMark m w t.1 = (if t.1.uw = true then (match t.1.came with
        | none => none
        | some rs => some { m with f := learnP m.f t.1.lo t.1.hi rs, ev := m.ev ++ (copiesOf rs (newKeys m.f t.1.lo t.1.hi)).map (cpD m.at'), pcs := m.pcs.filter fun y => !decide (y.num = t.1.num) })
      else some { m with pcs := m.pcs.filter fun y => !decide (y.num = t.1.num) }) := fun (_ : Unit) => by unfold tkMark; rw [if_neg hw]
    replace lm := lm ()
    refine s_seq (s_if (b := false) (et_is (et_test (ev_op (ev_var rfl) ev_c (rv_eq rfl))) (decide_eq_false fun z => hw (V.str.inj z))) (fun z => by cases z) fun _ H1 x1 => s_next ?_)
    try dsimp only
    have tw : EvT (tB (tFld K (tVar 3) "under_way")) [some (.ref p), some (.str w), some (.int t.1.num), some (.ref t.2)] H1 t.1.uw := fun G x Q' q' => ⟨_, rfl, t.2, Cp, dq, _, _, rfl, x _ _ (x1 _ _ hq), T2.cl, T2.nU, pl_way _ _ _, t.1.uw, rfl, q' G (Ex.refl G)⟩
    cases huw : t.1.uw with
    | false =>
      rw [huw] at tw lm
      rw [if_neg Bool.false_ne_true] at lm
      refine s_seq (s_if tw (fun z => by cases z) fun _ H2 x2 => s_next ?_)
      have x12 := x1.trans x2
      have B2 := B.keep (fun a o _ h => x12 a o h) (Kt.ex x12)
      try dsimp only
      refine ⟨_, rfl, p, C, dx, _, _, rfl, x12 _ _ hp, T.cl, T.aP, fl_pieces _ _ _ _ _ _ , .int t.1.num, rfl, pp, _, .inl t.1.num, rfl, B2.pp', rfl, by rw [hv]; rfl, ?_⟩
      exact q2 _ lm _ ⟨_, ⟨d, g, pp, nn, kvs, gv, _, B2.pdel t.1.num, fun a => Iff.rfl⟩, fun a o n h => (upd_ne fun (y : a = pp) => n ((fx a).mpr (y ▸ ft_pp))).trans (x12 _ _ h), fun a h => .inl ((fx a).mpr ((fpT_sub List.filter_sublist).subset h))⟩
    | true =>
      rw [huw] at tw lm hq
      rw [if_pos rfl] at lm
      have hcn := came_non hcv
      have tc : ∀ {G : Hp}, Ex H G → EvT (tTest (tOp rIsN (tFld K (tVar 3) "came") (tC .non))) [some (.ref p), some (.str w), some (.int t.1.num), some (.ref t.2)] G (!t.1.came.isSome) := fun xx G2 x Q' q' => ⟨_, rfl, t.2, Cp, dq, _, _, rfl, x _ _ (xx _ _ hq), T2.cl, T2.nC, pl_came _ _ _, rfl, (!t.1.came.isSome), by rw [← hcn, Bool.not_not], q' G2 (Ex.refl G2)⟩
      cases hcm : t.1.came with
      | none =>
        refine s_seq (s_if tw (fun _ H2 x2 => ?_) fun z => by cases z)
        have x12 := x1.trans x2
        rw [hcm] at lm tc
        exact s_seq (s_if (tc x12) (fun _ H3 x3 => raise_go (ea_cons (ev_var rfl) ea_nil) hb fun d' H4 nd x4 h4 => q1 lm d' H4 (fresh_back (x12.trans x3) nd) ((x12.trans x3).trans x4) h4) fun z => by cases z)
      | some rs =>
        have rl := came_few po hcm
        rw [hcm] at hcv
        obtain ⟨rw', rfl⟩ : ∃ a, cv = .ref a := by
          cases (show Dp K H cv (rowsD rs) from hcv) with
          | tup _ _ => exact ⟨_, rfl⟩
        refine s_seq (s_if tw (fun _ H2 x2 => ?_) fun z => by cases z)
        have x12 := x1.trans x2
        rw [hcm] at lm tc
        refine s_seq (s_if (tc x12) (fun z => by cases z) fun _ H3 x3 => s_next ?_)
        have x13 := x12.trans x3
        have B3 := B.keep (fun a o _ h => x13 a o h) (Kt.ex x13)
        obtain ⟨dx3, hp3⟩ := B3.at'.ob
        try dsimp only
        refine ⟨_, rfl, p, dx3, _, rfl, hp3, no_copy_piece _ _ _ _ _ _ , .ref t.2, rfl, p, d, g, pp, nn, t.2, tt, rw', m.life, m.at', t.1.num, t.1.lo, t.1.hi, kvs, m.f, gv, m.ev, pcV l, rs, rfl, B3.at', B3.kd, B3.ev, B3.eg, el, ⟨dq, x13 _ _ hq⟩, Evl.ex_t x13 hts, dp_same x13 _ _ hcv, ⟨po.a, Int.le_of_lt po.b, po.c⟩, rl, fun kvs' gv' H4 off S4 kd4 dE4 => ?_⟩
        try dsimp only
        have B4 := B3.chg (fun a o _ h2 h3 h => off a o h2 h3 h) S4 kd4 dE4 fun e me => by
          rcases List.mem_append.mp me with me | me
          · exact B3.eg e me
          · obtain ⟨r, _, rfl⟩ := List.mem_map.mp me
            rfl
        obtain ⟨dx4, hp4⟩ := S4.ob
        refine ⟨_, rfl, p, C, dx4, _, _, rfl, hp4, T.cl, T.aP, fl_pieces _ _ _ _ _ _ , .int t.1.num, rfl, pp, _, .inl t.1.num, rfl, B4.pp', rfl, by rw [hv]; rfl, ?_⟩
        exact q2 _ lm _ ⟨_, ⟨d, g, pp, nn, kvs', gv', _, B4.pdel t.1.num, fun a => Iff.rfl⟩, fun a o n h => (upd_ne fun (y : a = pp) => n ((fx a).mpr (y ▸ ft_pp))).trans (off _ _ (fun y => n ((fx a).mpr (y ▸ ft_d))) (fun y => n ((fx a).mpr (y ▸ ft_g))) (x13 _ _ h)), fun a h => .inl ((fx a).mpr ((fpT_sub List.filter_sublist).subset h))⟩
end
end K27
namespace K27
open PySem L2 PyProof.Rows Tc Evl
section
variable {P : Program} {w : World} {K : PySem.W.Frag} {mg : Str → Option Value} {base : Heap}
set_option maxHeartbeats 2000000 in
theorem ok_takeX {f C Cp : Addr} {fd : FuncData} {CW fG : Addr} {fdG : FuncData}  {kG kM k : Nat} (F : Fun K "take" "Taker.take" mTake f fd) (T : Txt K mg C) (T2 : TxtP K mg Cp) (FG : FnOk P w K mg base CX0 kG fG fdG ["self", "changes"] (spGroup K C)) (bG : Binds K fdG ["self", "changes"] []) (mG : Meth K C "take_group" fG) (hG : kG ≤ k) (dM : MethX P w K mg base C "take_mark" ["self", "word", "number"] kM (spMarkX K C Cp CW)) (hM : kM ≤ k) : FnOk P w K mg base (L2N.CX P w) (k + 1) f fd ["self", "entry"] (spTakeX K C Cp CW) := by
  refine okN F smTake (fun vs H Q E h => ?_) (fun cdv A outer s H vs Q E hr h => ?_)
  · obtain ⟨p, m, X, e, dd, rfl, _⟩ := h
    rfl
  · obtain ⟨p, m, X, e, dd, rfl, S, de, hgd, cl, hb, el, q1, q2⟩ := h
    refine ⟨_, (pss_cons (ps_if (pt_cmpR op_eq (pe_ix ix_tup (pv 1) pe_int (fun _ _ => rfl)) pe_str (nomark _)) (pss_one (ps_expr (pe_meth (pv 0) T.cl mG FG (hr.mono hG) bG .nil pass0 (pa_cons (pe_ix ix_tup (pv 1) pe_int (fun _ _ => rfl)) pa_nil)))) (pss_one (ps_if (PW.pt (pw_and (pt_cmpR op_eq (pe_ix ix_tup (pv 1) pe_int (fun _ _ => rfl)) (pe_fld (pv 0) rfl) (nomark _)) (pw_and1 (pt_cmp (pc_din (hu_of hr) (pe_ix ix_tup (pv 1) pe_int (fun _ _ => rfl)) (pe_fld (pv 0) rfl)))))) (pss_one (ps_expr (pe_methX dM (L2N.takes_of rfl rfl rfl rfl) hr hM T.cl (pv 0) (pa_cons (pe_ix ix_tup (pv 1) pe_int (fun _ _ => rfl)) (pa_cons (pe_ix ix_tup (pv 1) pe_int (fun _ _ => rfl)) pa_nil))))) pss_nil)))
      (pss_one (ps_fldaug (pv 0) pe_int in_add))), ?_⟩
    have S' := S
    obtain ⟨d, g, pp, nn, kvs, gv, l, B, fx⟩ := S'
    obtain ⟨dx, hp⟩ := B.at'.ob
    rcases en_kind hgd with ⟨cs, rfl, hcs⟩ | ⟨wd, lf, n, rfl, hns⟩
    · obtain ⟨ea, u0, u1, rfl, he, h0, h1⟩ := dpt2 de
      cases h0
      cases h1 with
      | @tup qa us _ hs hA =>
        refine s_seq (s_if (b := true) (et_is (et_test (ev_op (ev_ix0 (ev_var rfl) he) ev_c (rv_eq rfl))) (by decide)) (fun _ H1 x1 => ?_) fun z => by cases z)
        refine ⟨_, rfl, p, dx, _, rfl, x1 _ _ hp, no_take_group _ _ _ _ _ _ , ?_⟩
        refine ea_cons (ev_ix1 (ev_var rfl) (Evl.ex_t x1 he)) ea_nil H1 (Ex.refl H1) _ fun H2 x2 => ?_
        have x02 := x1.trans x2
        have B2 := B.keep (fun a o _ h => x02 a o h) (Kt.ex x02)
        refine ⟨p, d, g, pp, nn, qa, m.life, m.at', kvs, m.f, gv, m.ev, us, cs, allKs, rfl, B2.at', B2.kd, B2.ev, B2.eg, Evl.ex_t x02 hs, dps_same x02 _ _ hA, hcs, (fun k hk => allKs_in hk), el, cl, fun kvs' gv' H3 off S3 kd3 dE3 => ?_⟩
        have B3 := B2.chg (fun a o _ h2 h3 h => off a o h2 h3 h) S3 kd3 dE3 fun e me => by
          rcases List.mem_append.mp me with me | me
          · exact B2.eg e me
          · obtain ⟨r, _, rfl⟩ := List.mem_map.mp me
            exact nl_ev _ r
        obtain ⟨dx3, hp3⟩ := S3.ob
        refine ⟨_, rfl, p, C, dx3, _, _, rfl, hp3, T.cl, T.aA, fl_at _ _ _ _ _ _ , m.at', 1, rfl, rfl, dx3, _, hp3, by show 6 < 1000; decide, ?_⟩
        rw [fl_put]
        exact q2 _ rfl _ ⟨X, ⟨d, g, pp, nn, kvs', gv', l, B3.inc hp3, fx⟩, fun a o n h => (upd_ne fun (y : a = p) => n ((fx a).mpr (y ▸ ft_p))).trans (off _ _ (fun y => n ((fx a).mpr (y ▸ ft_d))) (fun y => n ((fx a).mpr (y ▸ ft_g))) (x02 _ _ h)), fun a h => .inl h⟩
    · obtain ⟨ea, u0, u1, u2, rfl, he, h0, h1, h2⟩ := dpt3 de
      cases h0
      cases h1
      cases h2
      have ho : ∀ {H1 : Hp}, Ex H H1 → Ev (tFld K (tVar 0) "own_life") [some (.ref p), some (.ref ea)] H1 (.int m.life) := fun x1 G x Q' q' => ⟨_, rfl, p, C, dx, _, _, rfl, x _ _ (x1 _ _ hp), T.cl, T.aL, fl_own_life _ _ _ _ _ _ , q' G (Ex.refl G)⟩
      have t1 : ∀ {H1 : Hp}, Ex H H1 → EvT (tTest (tOp rEq (tOp (rIxT K) (tVar 1) (tC (.int 1))) (tFld K (tVar 0) "own_life"))) [some (.ref p), some (.ref ea)] H1 (decide (lf = m.life)) := fun x1 => et_is (et_test (ev_op (ev_ix1 (ev_var rfl) (Evl.ex_t x1 he)) (ho x1) (rv_eq rfl))) (by
        by_cases z : lf = m.life
        · rw [z]
          simp
        · rw [decide_eq_false z]
          exact decide_eq_false fun y => z (V.int.inj y))
      have t2 : ∀ {H1 : Hp}, Ex H H1 → EvT (tB (tDIn (tOp (rIxT K) (tVar 1) (tC (.int 2))) (tFld K (tVar 0) "pieces"))) [some (.ref p), some (.ref ea)] H1 (valV (pcV l) (.inl n)).isSome := fun x1 G x Q' q' => by
        refine ev_ix2 (ev_var rfl) (Evl.ex_t (x1.trans x) he) G (Ex.refl G) _ fun G2 x2 => ?_
        have xx := (x1.trans x).trans x2
        exact ⟨.ref p, rfl, p, C, dx, _, _, rfl, xx _ _ hp, T.cl, T.aP, fl_pieces _ _ _ _ _ _ , pp, _, rfl, DGet.k (k := .inl n) (xx _ _ B.pp'), _, rfl, q' G2 x2⟩
      have skip : ∀ (H2 : Hp), Ex H H2 → tTake m (.tuple [.str wd, .int lf, .int n]) = some (onT m) → Q .non (upd H2 p (.ins C dx (flds m.life (m.at' + 1) d g pp nn))) := fun H2 x2 e => by
        have B2 := B.keep (fun a o _ h => x2 a o h) (Kt.ex x2)
        exact q2 _ e _ ⟨X, ⟨d, g, pp, nn, kvs, gv, l, B2.inc (x2 _ _ hp), fx⟩, fun a o n h => (upd_ne fun (y : a = p) => n ((fx a).mpr (y ▸ ft_p))).trans (x2 _ _ h), fun a h => .inl h⟩
      refine s_seq (s_if (b := false) (et_is (et_test (ev_op (ev_ix0 (ev_var rfl) he) ev_c (rv_eq rfl))) (decide_eq_false fun z => hns (V.str.inj z))) (fun z => by cases z) fun _ H1 x1 => ?_)
      have off1 : ∀ (b : Bool), (b = true → lf = m.life ∧ (pcOf m n).isSome = true) → True := fun _ _ => trivial
      by_cases hl : lf = m.life
      · rcases pcV_val B n with ⟨hx, hv⟩ | ⟨t, mt, en, hx, hv⟩
        · refine s_if (b := false) (et_is (et_and (et_is (t1 x1) (decide_eq_true hl)) fun _ => t2 x1) (by rw [hv]; rfl)) (fun z => by cases z) fun _ H2 x2 => s_next ?_
          have x02 := x1.trans x2
          refine ⟨_, rfl, p, C, dx, _, _, rfl, x02 _ _ hp, T.cl, T.aA, fl_at _ _ _ _ _ _ , m.at', 1, rfl, rfl, dx, _, x02 _ _ hp, by show 6 < 1000; decide, ?_⟩
          rw [fl_put]
          exact skip H2 x02 (by show (if lf = m.life then _ else _) = _; rw [if_pos hl, hx])
        · refine s_if (b := true) (et_is (et_and (et_is (t1 x1) (decide_eq_true hl)) fun _ => t2 x1) (by rw [hv]; rfl)) (fun _ H2 x2 => ?_) fun z => by cases z
          have x02 := x1.trans x2
          have et : tTake m (.tuple [.str wd, .int lf, .int n]) = (tkMark m wd t.1).map onT := by
            show (if lf = m.life then _ else _) = _
            rw [if_pos hl, hx]
          refine ⟨.ref p, rfl, p, dx, _, rfl, x02 _ _ hp, no_take_mark _ _ _ _ _ _ , ?_⟩
          refine ea_cons (ev_ix0 (ev_var rfl) (Evl.ex_t x02 he)) (ea_cons (ev_ix2 (ev_var rfl) (Evl.ex_t x02 he)) ea_nil) H2 (Ex.refl H2) _ fun H3 x3 => ?_
          have x03 := x02.trans x3
          refine ⟨p, m, X, wd, n, t.1, rfl, S.ex x03, hx, hb, el, fun e d' H4 nd x4 h4 => q1 (by rw [et, e]; rfl) d' H4 (fresh_back x03 nd) (x03.trans x4) h4, fun m' e H4 o => ?_⟩
          obtain ⟨X', ⟨d4, g4, pp4, nn4, kvs4, gv4, l4, B4, fx4⟩, off4, sub4⟩ := o
          obtain ⟨dx4, hp4⟩ := B4.at'.ob
          try dsimp only
          refine ⟨_, rfl, p, C, dx4, _, _, rfl, hp4, T.cl, T.aA, fl_at _ _ _ _ _ _ , m'.at', 1, rfl, rfl, dx4, _, hp4, by show 6 < 1000; decide, ?_⟩
          rw [fl_put]
          exact q2 (onT m') (by rw [et, e]; rfl) _ ⟨X', ⟨d4, g4, pp4, nn4, kvs4, gv4, l4, B4.inc hp4, fx4⟩, fun a o n h => (upd_ne fun (y : a = p) => n ((fx a).mpr (y ▸ ft_p))).trans (off4 _ _ n (x03 _ _ h)), fun a h => (sub4 a h).imp id fun z => fresh_back x03 z⟩
      · refine s_if (b := false) (et_is (et_and (b := false) (et_is (t1 x1) (decide_eq_false hl)) fun z => by cases z) rfl) (fun z => by cases z) fun _ H2 x2 => s_next ?_
        have x02 := x1.trans x2
        refine ⟨_, rfl, p, C, dx, _, _, rfl, x02 _ _ hp, T.cl, T.aA, fl_at _ _ _ _ _ _ , m.at', 1, rfl, rfl, dx, _, x02 _ _ hp, by show 6 < 1000; decide, ?_⟩
        rw [fl_put]
        exact skip H2 x02 (by show (if lf = m.life then _ else _) = _; rw [if_neg hl])
end
end K27
/-! what the top leaves, looked at once: defs, classes, exceptions -/
namespace Tc
open PySem PySem.Spec PyProof.Rows L2 He
def rfsO (g : Addr → Option Obj) (a : Addr) : List Addr := match g a with
  | some o => (match o.data with
    | .seq its _ => its.toList.flatMap refV
    | .dict es _ => es.toList.flatMap fun e => refV e.val
    | .func fd => refV fd.code ++ (refV fd.defaults ++ (refV fd.kwdefaults ++ fd.closure.map (·.2)))
    | .cls cd => cd.ns :: cd.mro.flatMap refV
    | _ => [])
  | none => []
/-- by steps from what is known -/
def reach (g : Addr → Option Obj) : Nat → List Addr → List Addr → List Addr
  | 0, seen, fr => seen ++ fr
  | n + 1, seen, fr => reach g n (seen ++ fr) (((fr.flatMap (rfsO g)).eraseDups).filter fun a => !(seen.contains a || fr.contains a))
abbrev FnC : Type := Option (Str × Str × Arguments × FuncBody × Scope × Addr × List Str × Addr)
def xcW (K : PySem.W.Frag) (x : Str) : FnC := match K.lookup (ma K (ga K x) "__init__") with
  | some ⟨_, _, .func fd, _⟩ => some (fd.name, fd.qualname, fd.params, fd.body, fd.scope, fd.globals, fd.closure.map (·.1), fd.builtins)
  | _ => none
/-- an exception's own __init__ -/
structure XcD where
  cls : Str
  qual : Str
  params : Arguments
  body : List Stmt
  scope : Scope
def XcD.val (d : XcD) : FnC := some ("__init__", d.qual, d.params, .stmts d.body, d.scope, mainGlobals, ["__class__"], builtinsNs)
def clsObjB (K : PySem.W.Frag) (C : Addr) : Bool := match K.lookup C with
  | some ⟨.type t, _, .cls cd, sl⟩ => (match cd.mro, sl.toList with
    | .ref C' :: bm, [_, _, _, _, some (.builtin n), _] => decide (t = "type") && (decide (C' = C) && (decide (n = "ValueError.__new__") && (!cd.hasDel && (cd.hasDict && PySem.HandSPX.refsVE bm))))
    | _, _ => false)
  | _ => false
theorem clsObjB_ok {K : PySem.W.Frag} {C : Addr} (h : clsObjB K C = true) : ∃ nm q N bs bm sn sub ab col dd k0 k1 k2 k3 k5, K.lookup C = some (excClassObj nm q C N bs bm true sn sub ab col dd k0 k1 k2 k3 k5 "ValueError.__new__") ∧ PySem.HandSPX.refsVE bm = true := by
  unfold clsObjB at h
  split at h
  · rename_i t dd cd sl hl
    split at h
    · rename_i C' bm k0 k1 k2 k3 n k5 hm hs
      obtain ⟨h1, h⟩ := ba h
      obtain ⟨h2, h⟩ := ba h
      obtain ⟨h3, h⟩ := ba h
      obtain ⟨h4, h⟩ := ba h
      obtain ⟨h5, h6⟩ := ba h
      have e1 := of_decide_eq_true h1
      have e2 := of_decide_eq_true h2
      have e3 := of_decide_eq_true h3
      have es : sl = #[k0, k1, k2, k3, some (.builtin n), k5] := by
        rw [← Array.toList_inj]
        exact hs
      obtain ⟨nm, bs, mro, ns, q, hasD, sn, sub, ab, col, hasDel⟩ := cd
      dsimp only at hm h4 h5
      have e4 : hasDel = false := by
        cases hasDel with
        | false => rfl
        | true => cases h4
      subst e1 e2 e3 es hm h5 e4
      exact ⟨nm, q, ns, bs, bm, sn, sub, ab, col, dd, k0, k1, k2, k3, k5, hl, h6⟩
    · cases h
  · cases h
def xcB (K : PySem.W.Frag) (file x fld : Str) (fl : List Bool) : Bool :=
  eqO (PySem.W.nsIn K mainGlobals x) (some (some (.ref (ga K x)))) && (clsObjB K (ga K x) && (oexB K (ga K x) && (excB K (ga K x) fl && (eqO (PySem.W.findIn K (.ref (ga K x)) "__init__") (some (some (.ref (ma K (ga K x) "__init__")))) &&
  (decide (PySem.W.typeIn K (.ref (ma K (ga K x) "__init__")) = some (.type "function")) && (eqO (PySem.W.findIn K (.ref (ga K x)) fld) (some none) && (match K.lookup (ma K (ga K x) "__init__") with
    | some ⟨_, _, .func fd, _⟩ => (match fd.defaults, fd.code, fd.closure with
      | .none, .ref A, [(_, W)] => PySem.W.codeIn K (.ref A) fd.qualname && (supB K file (ga K x) A && (match K.lookup W with
        | some ⟨_, _, .cell (some (.ref C')), _⟩ => decide (C' = ga K x)
        | _ => false))
      | _, _, _ => false)
    | _ => false)))))))
/-- all that an exception of the text is known for -/
structure XcOk (P : Program) (K : PySem.W.Frag) (mg : Str → Option Value) (d : XcD) (fld : Str) (fl : List Bool) (C I W A : Addr) : Prop where
  T : OexC K C
  E : ExC K mg d.cls C fl
  Z : SupF P K mg C A
  iC : PySem.W.findIn K (.ref C) "__init__" = some (some (.ref I))
  tI : PySem.W.typeIn K (.ref I) = some (.type "function")
  F : ∃ oc od sl kv dc pm an ct, K.lookup I = some ⟨oc, od, .func (PySem.W.fnX "__init__" d.qual d.params d.body d.scope [("__class__", W)] .none kv dc pm an (.ref A) ct), sl⟩
  cd : PySem.W.codeIn K (.ref A) d.qual = true
  cW : ∃ ol : Obj, K.lookup W = some ol ∧ ol.data = .cell (some (.ref C))
  no : PySem.W.findIn K (.ref C) fld = some none
  mgC : mg d.cls = some (.ref C)
theorem xc_ok {P : Program} {K : PySem.W.Frag} {h : Heap} {mg : Str → Option Value} {d : XcD} {fld : Str} {fl : List Bool} (X : K.In h) (G : h.Ns mainGlobals mg) (top : (P.main.scope.names.lookup ("super" : Str)).isSome = false) (e : xcW K d.cls = d.val) (c : xcB K P.main.file d.cls fld fl = true) : ∃ I W A, XcOk P K mg d fld fl (ga K d.cls) I W A := by
  unfold xcB at c
  obtain ⟨c1, c⟩ := ba c
  obtain ⟨c2, c⟩ := ba c
  obtain ⟨c3, c⟩ := ba c
  obtain ⟨c4, c⟩ := ba c
  obtain ⟨c5, c⟩ := ba c
  obtain ⟨c6, c⟩ := ba c
  obtain ⟨c7, c8⟩ := ba c
  have a1 := eqO_ok c1
  obtain ⟨nm, q, N, bs, bm, sn, sub, ab, col, dd, k0, k1, k2, k3, k5, xL, xR⟩ := clsObjB_ok c2
  unfold xcW at e
  cases hl : K.lookup (ma K (ga K d.cls) "__init__") with
  | none =>
    rw [hl] at c8
    cases c8
  | some o =>
    obtain ⟨oc, od, dt, osl⟩ := o
    rw [hl] at c8 e
    cases dt with
    | func fd =>
      obtain ⟨n1, n2, n3, n4, n5, n6, n7, n8, n9, n10, n11, n12, n13, n14, n15⟩ := fd
      have e2 : (some (n1, n2, n3, n4, n5, n6, n7.map (·.1), n15) : FnC) = some (("__init__" : Str), d.qual, d.params, FuncBody.stmts d.body, d.scope, mainGlobals, [("__class__" : Str)], builtinsNs) := e
      simp only [Option.some.injEq, Prod.mk.injEq] at e2
      obtain ⟨h1, h2, h3, h4, h5, h6, h7, h8⟩ := e2
      subst h1 h2 h3 h4 h5 h6 h8
      dsimp only at c8
      split at c8
      · rename_i A s W
        have h7' : s = "__class__" := (List.cons.inj h7).1
        subst h7'
        obtain ⟨d1, c9⟩ := ba c8
        obtain ⟨d2, d3⟩ := ba c9
        refine ⟨_, W, A, oexB_ok xL xR c3, excB_ok X G a1 c4, supB_ok X G top d2, eqO_ok c5, of_decide_eq_true c6, ⟨oc, od, osl, _, _, _, _, _, hl⟩, d1, ?_, eqO_ok c7, PySem.W.mg_of X G a1⟩
        split at d3
        · rename_i w0 w1 C' w2 hw
          rw [of_decide_eq_true d3] at hw
          exact ⟨_, hw, rfl⟩
        · cases d3
      · cases c8
    | _ => cases c8
/-! ### the look -/
abbrev AlM : Type := Bool × List FnW × List FnC
def obsM (fs : List (PySem.W.Frag → Bool)) (fn : List DefD) (xs : List XcD) (K : PySem.W.Frag) : AlM := ((fs.all fun f => f K) && fn.all fun d => d.ok K, fn.map (fun d => fnW K d.at_), xs.map fun x => xcW K x.cls)
def valM (fn : List DefD) (xs : List XcD) : AlM := (true, fn.map DefD.val, xs.map XcD.val)
def SaysM (fs : List (PySem.W.Frag → Bool)) (fn : List DefD) (xs : List XcD) (K : PySem.W.Frag) : Prop := obsM fs fn xs K = valM fn xs
def obsMG (n : Nat) (fs : List (PySem.W.Frag → Bool)) (fn : List DefD) (xs : List XcD) (g : Addr → Option Obj) : AlM := obsM fs fn xs (frG g (reach g n [cStatics] [mainGlobals]))
def hookM (n : Nat) (fs : List (PySem.W.Frag → Bool)) (fn : List DefD) (xs : List XcD) : PySem.W.Hook where
  α := AlM
  obs := fun s => obsMG n fs fn xs s.heap.get?
  val := fun _ => valM fn xs
  says := fun _ h => ∃ K : PySem.W.Frag, K.In h ∧ SaysM fs fn xs K
  of := fun _ _ e => ⟨_, frG_in, e⟩
  keeps := fun _ _ _ ⟨K, hK, c⟩ k => ⟨K, PySem.W.Frag.In.keeps hK k, c⟩
theorem obsMG_eq {n : Nat} {fs : List (PySem.W.Frag → Bool)} {fn : List DefD} {xs : List XcD} {g : Addr → Option Obj} {s : Shared} (h : ∀ a, g a = s.heap.get? a) : obsMG n fs fn xs g = (hookM n fs fn xs).obs s := by
  have e : g = s.heap.get? := funext h
  rw [e] <;> rfl
section
variable {fs : List (PySem.W.Frag → Bool)} {fn : List DefD} {xs : List XcD} {K : PySem.W.Frag}
theorem SaysM.fact (c : SaysM fs fn xs K) (i : Nat) {f : PySem.W.Frag → Bool} (h : fs[i]? = some f := by rfl) : f K = true := by
  have c1 := (ba (show ((fs.all fun f => f K) && fn.all fun d => d.ok K) = true from congrArg (fun z : AlM => z.1) c)).1
  exact List.all_eq_true.mp c1 f (List.mem_of_getElem? h)
theorem SaysM.def_ (c : SaysM fs fn xs K) (i : Nat) {d : DefD} (h : fn[i]? = some d := by rfl) : ∃ fd, FunD K d.name d.qual d.params d.body d.scope (d.dvs K) (d.kws K) (fAd K d.at_) fd := by
  have c2 := (ba (show ((fs.all fun f => f K) && fn.all fun d => d.ok K) = true from congrArg (fun z : AlM => z.1) c)).2
  have e : fn.map (fun d => fnW K d.at_) = fn.map DefD.val := congrArg (fun z : AlM => z.2.1) c
  have e2 : (fn.map fun d => fnW K d.at_)[i]? = (fn.map DefD.val)[i]? := by rw [e]
  rw [List.getElem?_map, List.getElem?_map, h] at e2
  exact DefD.funD (Option.some.inj e2) (List.all_eq_true.mp c2 d (List.mem_of_getElem? h))
theorem SaysM.exc (c : SaysM fs fn xs K) (i : Nat) {d : XcD} (h : xs[i]? = some d := by rfl) : xcW K d.cls = d.val := by
  have e : xs.map (fun x => xcW K x.cls) = xs.map XcD.val := congrArg (fun z : AlM => z.2.2) c
  have e2 : (xs.map fun x => xcW K x.cls)[i]? = (xs.map XcD.val)[i]? := by rw [e]
  rw [List.getElem?_map, List.getElem?_map, h] at e2
  exact Option.some.inj e2
end
/-- a def without defaults by places -/
theorem fun_of {K : PySem.W.Frag} {x qual : Str} {st : Stmt} {kws : List (Str × V)} {f : Addr} {fd : FuncData} (F : FunD K x qual (defArgs st) (defBody st) (defScope st) [] kws f fd) : Fun K x qual st f fd := by
  obtain ⟨oc, od, dV, kV, doc, pm, an, cdv, ct, osl, e, lk, hcd, hD, _⟩ := F.ex
  rcases hD with ⟨_, rfl⟩ | ⟨n, _⟩
  · exact ⟨⟨oc, od, kV, doc, pm, an, cdv, ct, osl, e, lk, hcd⟩, F.kp⟩
  · exact absurd rfl n
def tup0B (K : PySem.W.Frag) (a : Addr) : Bool := match K.lookup a with
  | some ⟨.type c, _, .seq its _, _⟩ => decide (c = "tuple") && its.toList.isEmpty
  | _ => false
theorem tup0_ok {K : PySem.W.Frag} {a : Addr} (h : tup0B K a = true) (H : Hp) : Dp K H (.ref a) (.tuple []) := by
  unfold tup0B at h
  split at h
  · rename_i c dd its n sl hl
    obtain ⟨h1, h2⟩ := ba h
    have e := of_decide_eq_true h1
    have ei : its.toList = [] := List.isEmpty_iff.mp h2
    refine .tup (.inr ⟨_, its, n, hl, by rw [e], rfl, by rw [← Array.length_toList, ei]; exact Nat.zero_le _, by rw [ei]; exact .nil⟩) .nil
  · cases h
end Tc
/-! methods whose last names are left to their defaults, and that may let an exception out -/
namespace Tc
open PySem PySem.Spec PyProof.Rows L2 L2H
def MethXD (P : Program) (w : World) (K : PySem.W.Frag) (mg : Str → Option Value) (base : Heap) (C : Addr) (m : Str) (ps : List Str) (dvs : List V) (k : Nat) (sp : Sp) : Prop :=
  ∃ (f : Addr) (fd : FuncData) (ds : List Value), FnOk P w K mg base (L2N.CX P w) k f fd ps sp ∧ Vals dvs ds ∧ Binds K fd ps ds ∧ Meth K C m f
def tMethXD (C : Addr) (m : Str) (sp : Sp) (dvs : List V) (E : L2.St → XK) (ta : TE) (t : TA) : TE := fun σ H Q => ta σ H fun x H1 => ∃ a dx fs, x = .ref a ∧ H1 a = some (.ins C dx fs) ∧ fs.lookup m = none ∧ t σ H1 fun vs H2 => sp ((x :: vs) ++ dvs) H2 Q (E σ)
section
variable {X : Cx} {C : Addr} {m : Str} {ps : List Str} {dvs : List V} {k j : Nat} {sp : Sp} {W : WX} {o e : Expr} {es : List Expr} {ta : TE} {t : TA} {pos apos : Pos}
theorem pe_methXD {pl : Sem Bool} (d : MethXD X.prog X.w X.K X.mg X.base C m ps dvs k sp) (take : L2N.Takes X W) (hr : Room j X.A) (hj : k ≤ j) (c : Cls X.K C) (he : PE X o ta) (ha : PA X (e :: es) t)
    (hst : starEach (e :: es) X.env = (false, eval e X.env) :: starEach es X.env := by rfl)
    (hpl : (backTo pos (starEach es X.env)).any (·.1) = false := by rfl)
    (ht : eval (.Call (.Attribute o m apos) (e :: es) [] pos) X.env = (do
      let v0 ← eval o X.env
      standAt apos.atName
      let (g, g1) ← holding [v0] (getMethod v0 m pl)
      callWith pos g g1 (backTo pos (starEach (e :: es) X.env)) (backToKw pos (keywordEach [] X.env))) := by rfl) :
    PE X (.Call (.Attribute o m apos) (e :: es) [] pos) (tMethXD C m sp dvs (WE W) ta t) := by
  obtain ⟨f, fd, ds, F, hd, hb, hm⟩ := d
  refine ⟨fun pins s σ H Q I want => PySem.W.methodCall_KW (pl := pl) (thn (he.run pins s σ H _ I want) fun u s1 z1 => ?_) ht⟩
  obtain ⟨x, H1, I1, rx, a, dx, fs, rfl, ea, nl, go⟩ := z1
  obtain rfl : u = Value.ref a := rx
  refine getmeth_ok I1 ea c hm nl (PySem.W.callWith_K (first := [.ref a]) (h₀ := X.base) I.mod.kin hm.kp (thn (ha.run pos pins s1 σ H1 _ I1 go) fun us s2 z2 => ?_) hst hpl)
  obtain ⟨vs, H2, I2, r, fin⟩ := z2
  have rr : Vals (.ref a :: vs) (.ref a :: us) := .cons rfl r
  exact ⟨I2.kIn, run_fnSD F (hr.mono hj) hb hd (L2N.passAt take σ) I2 rr fin⟩
end
end Tc
/-! a comprehension that makes data of data -/
namespace Tc
open PySem L2 Evl
theorem kt_put {D : Addr} {H : Hp} {acc ws : List V} (h : H D = some (.lst acc)) : Kt H (upd H D (.lst ws)) :=
  Kt.but (fun a => a = D) (fun a e => by
    subst e
    exact ⟨_, h, (fun xs z => by cases z), fun o xs z => by cases z⟩) fun a o n k => by
    rw [upd_ne n]
    exact k
theorem lc_data {K : PySem.W.Frag} {σ : L2.St} {H : Hp} {a : Addr} {us : List V} {ds : List PyData} {j k : Nat} {vs : List Nat} {t : TT} {te : TE} {Q : VK} (g : PyData → Bool) (h : PyData → PyData) (hL : H a = some (.lst us)) (dd : DpAll K H us ds) (few : us.length ≤ 40000)
    (hw : ∀ x, wipe ((wipe σ vs).set j (some x)) vs = wipe σ vs)
    (ht : ∀ (d : PyData) (x : V) H1, d ∈ ds → Ex H H1 → Dp K H1 x d → EvT t ((wipe σ vs).set j (some x)) H1 (g d))
    (he : ∀ (d : PyData) (x : V) H1, d ∈ ds → Ex H H1 → Dp K H1 x d → g d = true → ∀ Q : VK, (∀ y H2, Ex H1 H2 → Dp K H2 y (h d) → Q y H2) → te ((wipe σ vs).set j (some x)) H1 Q)
    (nlh : ∀ d ∈ ds, nl k (h d) = true)
    (q : ∀ L ws H', H L = none → Ex H H' → H' L = some (.lst ws) → DpAll K H' ws ((ds.filter g).map h) → Q (.ref L) H') :
    tLc (iList K (tC (.ref a))) (gName j) t te vs σ H Q := by
  refine ⟨a, rfl, ⟨us, sq_of hL⟩, fun D hD => lc_list (xs := us) (fun i H' => Ex H H' ∧ ∃ acc, H' D = some (.lst acc) ∧ acc.length ≤ i ∧ DpAll K H' acc (((ds.take i).filter g).map h)) ⟨Ex.new hD, [], upd_same, Nat.le_refl _, .nil⟩ (fun i H' _ p => sq_of (p.1 _ _ hL)) (fun i x H' hi p => ?_) (fun H' p => ?_)⟩
  · obtain ⟨xH, acc, hacc, la, dacc⟩ := p
    obtain ⟨d, hd, hx⟩ := dps_at dd hi
    have md : d ∈ ds := List.mem_of_getElem? hd
    have hi40 : i < 40000 := by have := (List.getElem?_eq_some_iff.mp hi).1; omega
    have tk : ds.take (i + 1) = ds.take i ++ [d] := by
      rw [List.take_succ, hd]
      rfl
    refine ⟨hw x, ?_⟩
    refine ht d x H' md xH (dp_same xH _ _ hx) H' (Ex.refl H') _ fun H3 x3 => ?_
    cases e : g d with
    | true =>
      rw [if_pos rfl]
      refine he d x H3 md (xH.trans x3) (dp_same (xH.trans x3) _ _ hx) e _ fun y H4 x4 dy => ⟨acc, x4 _ _ (x3 _ _ hacc), sz_lt (by omega), ?_, acc ++ [y], upd_same, by rw [List.length_append]; simp only [List.length_cons, List.length_nil]; omega, ?_⟩
      · intro b o hb
        rw [upd_ne (ne_of_none hb hD)]
        exact x4 _ _ (x3 _ _ (xH _ _ hb))
      · rw [tk, List.filter_append, List.filter_cons_of_pos e, List.filter_nil, List.map_append]
        refine (kt_put (x4 _ _ (x3 _ _ hacc))).dps (n := k) (fun u mu => ?_) (dps_app (dps_same (x3.trans x4) _ _ dacc) (.cons dy .nil))
        rcases List.mem_append.mp mu with mu | mu
        · obtain ⟨u', mu', rfl⟩ := List.mem_map.mp mu
          exact nlh u' (List.mem_of_mem_take ((List.mem_filter.mp mu').1))
        · rw [List.mem_singleton.mp mu]
          exact nlh d md
    | false =>
      rw [if_neg Bool.false_ne_true]
      refine ⟨xH.trans x3, acc, x3 _ _ hacc, Nat.le_succ_of_le la, ?_⟩
      rw [tk, List.filter_append, List.filter_cons_of_neg (by rw [e]; exact Bool.false_ne_true), List.filter_nil, List.append_nil]
      exact dps_same x3 _ _ dacc
  · obtain ⟨xH, acc, hacc, la, dacc⟩ := p
    rw [dps_len dd, List.take_length] at dacc
    exact q D acc H' hD xH hacc dacc
/-- .. over a list that is told -/
theorem lc_dataE {K : PySem.W.Frag} {σ : L2.St} {H : Hp} {tl : TE} {ds : List PyData} {j k : Nat} {vs : List Nat} {t : TT} {te : TE} {Q : VK} (g : PyData → Bool) (h : PyData → PyData)
    (hl : ∀ Q' : VK, (∀ a us H1, Ex H H1 → H1 a = some (.lst us) → DpAll K H1 us ds → Q' (.ref a) H1) → tl σ H Q') (few : ds.length ≤ 40000)
    (hw : ∀ x, wipe ((wipe σ vs).set j (some x)) vs = wipe σ vs)
    (ht : ∀ (d : PyData) (x : V) H1, d ∈ ds → Ex H H1 → Dp K H1 x d → EvT t ((wipe σ vs).set j (some x)) H1 (g d))
    (he : ∀ (d : PyData) (x : V) H1, d ∈ ds → Ex H H1 → Dp K H1 x d → g d = true → ∀ Q : VK, (∀ y H2, Ex H1 H2 → Dp K H2 y (h d) → Q y H2) → te ((wipe σ vs).set j (some x)) H1 Q)
    (nlh : ∀ d ∈ ds, nl k (h d) = true)
    (q : ∀ L ws H', H L = none → Ex H H' → H' L = some (.lst ws) → DpAll K H' ws ((ds.filter g).map h) → Q (.ref L) H') :
    tLc (iList K tl) (gName j) t te vs σ H Q := hl _ fun a us H1 x1 h1 d1 =>
  lc_data (K := K) (σ := σ) (H := H1) (a := a) (us := us) (ds := ds) (j := j) (k := k) (vs := vs) (t := t) (te := te) (Q := Q) g h h1 d1 (by rw [dps_len d1]; exact few) hw (fun d x H2 m x2 => ht d x H2 m (x1.trans x2)) (fun d x H2 m x2 => he d x H2 m (x1.trans x2)) nlh fun L ws H' nL x' hL dL => q L ws H' (fresh_back x1 nL) (x1.trans x') hL dL
end Tc
namespace K27
open PySem L2 PyProof.Rows Tc Evl
abbrev mAsked : Stmt := inClass sTaker 17
theorem smAsked : FnScope ["self", "told", "number", "piece"] ["self"] (defScope mAsked) := ⟨rfl, rfl, rfl, by decide +kernel, rfl, by decide +kernel, by decide +kernel⟩
def pcD (x : Pce) : PyData := .tuple [.int x.num, .tuple [.int x.lo, .int x.hi], .bool x.uw, .bool x.came.isSome]
def askD (m : TM) (n : Int) : PyData := match pcOf m n with
  | some x => pcD x
  | none => .none
theorem nl_ask (m : TM) (n : Int) : nl 2 (askD m n) = true := by
  unfold askD
  cases pcOf m n <;> rfl
def spAskedM (K : PySem.W.Frag) (C Cp : Addr) : Sp := fun vs H Q _ => ∃ (p : Addr) (m : TM) (X : Addr → Prop), vs = [.ref p] ∧ TkM K C Cp H p m X ∧ m.pcs.length ≤ 10000 ∧ ∀ (t : Addr) (us : List V) (js : List Int) H', H t = none → Ex H H' → H' t = some (.lst us) → js.Perm (m.pcs.map (·.num)) → js.Pairwise (· < ·) → DpAll K H' us (js.map (askD m)) → Q (.ref t) H'
section
variable {P : Program} {w : World} {K : PySem.W.Frag} {mg : Str → Option Value} {base : Heap}
set_option maxHeartbeats 2000000 in
theorem ok_askedM {f C Cp : Addr} {fd : FuncData} {k : Nat} (F : Fun K "asked" "Taker.asked" mAsked f fd) (T : Txt K mg C) (T2 : TxtP K mg Cp) (N : Names mg) : FnOk P w K mg base CX0 (k + 1) f fd ["self"] (spAskedM K C Cp) := by
  refine F.ok smAsked (fun vs H Q E h => ?_) (fun cdv A outer s H vs Q E hr h => ?_)
  · obtain ⟨p, m, X, rfl, _⟩ := h
    rfl
  · obtain ⟨p, m, X, rfl, S, few, q⟩ := h
    refine ⟨_, (pss_cons (ps_set (i := 1) smAsked.nd rfl (.inl rfl) (pe_lst pa_nil))
      (pss_cons (ps_for PassesOwn.never rfl (pi_list (pe_callB (cr_sortedDA rfl) (by rfl) N.sorted boot_sorted (pa_cons (pe_fld (pv 0) rfl) pa_nil))) (pg_name (i := 2) smAsked.nd rfl (.inl rfl)) (pss_cons (ps_set (i := 3) smAsked.nd rfl (.inl rfl) (pe_dget (hu_of hr) (pe_fld (pv 0) rfl) (pv 2) (fun _ _ => rfl)))
      (pss_one (ps_expr (pe_bm PySem.F.plainAttrs_list PySem.F.slot_list_append PySem.F.type_list_append mt_append (pv 1) (pa_cons (pe_tup (pa_cons (pv 2) (pa_cons (pe_fld (pv 3) rfl) (pa_cons (pe_fld (pv 3) rfl) (pa_cons (pe_cmpR op_notN1 (pe_fld (pv 3) rfl) pe_non (nomark _)) pa_nil))))) pa_nil))))))
      (pss_one (ps_ret (pv 1))))), ?_⟩
    obtain ⟨d, g, pp, nn, kvs, gv, l, B, fx⟩ := S
    refine s_seq ⟨Nat.zero_le _, fun L hL => g_name ?_⟩
    dsimp only
    have x1 : Ex H (upd H L (.lst [])) := Ex.new hL
    have h1 : (upd H L (.lst [])) L = some (.lst []) := upd_same
    generalize upd H L (.lst []) = H1 at x1 h1
    have B1 := B.keep (fun a o _ h => x1 a o h) (Kt.ex x1)
    obtain ⟨dx, hp⟩ := B1.at'.ob
    have ek : (pcV l).map (·.1) = (m.pcs.map (·.num)).map Sum.inl := by
      rw [← B.pl]
      unfold pcV
      rw [List.map_map, List.map_map, List.map_map]
      rfl
    refine s_seq ⟨_, rfl, p, C, dx, _, _, rfl, hp, T.cl, T.aP, fl_pieces _ _ _ _ _ _ , pp, pcV l, m.pcs.map (·.num), rfl, .inl B1.pp', ek, fun js lj pm pw hl => ⟨lj, rfl, ⟨_, sq_of upd_same⟩, ?_⟩⟩
    have ndj : js.Nodup := pm.nodup_iff.mpr B.pd
    have up : js.Pairwise (· < ·) := lt_of_le_nodup pw ndj
    have jl : js.length ≤ 10000 := by
      rw [pm.length_eq, List.length_map]
      exact few
    have x2 : Ex H1 (upd H1 lj (.lst (js.map V.int))) := Ex.new hl
    have h2 : (upd H1 lj (.lst (js.map V.int))) lj = some (.lst (js.map V.int)) := upd_same
    have nlL : lj ≠ L := fun z => by
      rw [z, h1] at hl
      cases hl
    generalize upd H1 lj (.lst (js.map V.int)) = H2 at x2 h2 ⊢
    have x02 := x1.trans x2
    refine for_list (K := K) (a := lj) (xs := js.map V.int) (fun j σ' G => ∃ y2 y3 us, σ' = [some (.ref p), some (.ref L), y2, y3] ∧ Ex H G ∧ G lj = some (.lst (js.map V.int)) ∧ G L = some (.lst us) ∧ us.length ≤ j ∧ DpAll K G us ((js.take j).map (askD m))) ⟨none, none, [], rfl, x02, h2, x2 _ _ h1, Nat.le_refl _, .nil⟩ (fun j σ' G _ ⟨_, _, _, _, _, hh, _⟩ => sq_of hh) (fun j x σ' G hx pj => ?_) (fun σ' G pj => ?_)
    · obtain ⟨y2, y3, us, rfl, xG, hlj, hLG, ul, dA⟩ := pj
      rw [List.getElem?_map] at hx
      obtain ⟨nj, hnj, rfl⟩ := Option.map_eq_some_iff.mp hx
      have hj : j < js.length := (List.getElem?_eq_some_iff.mp hnj).1
      have mj : nj ∈ m.pcs.map (·.num) := pm.mem_iff.mp (List.mem_of_getElem? hnj)
      have BG := B.keep (fun a o _ h => xG a o h) (Kt.ex xG)
      obtain ⟨t, mt, en, hxp, hv⟩ : ∃ t ∈ l, t.1.num = nj ∧ pcOf m nj = some t.1 ∧ valV (pcV l) (.inl nj) = some (.ref t.2) := by
        rcases pcV_val B nj with ⟨h1, _⟩ | h
        · obtain ⟨x, mx, ex⟩ := List.mem_map.mp mj
          have := List.find?_eq_none.mp h1 x mx
          rw [decide_eq_true ex] at this
          exact absurd rfl this
        · exact h
      obtain ⟨tt, cv, ⟨dq, hq⟩, hts, hcv⟩ := BG.pc t mt
      have hcn := came_non hcv
      obtain ⟨dxG, hpG⟩ := BG.at'.ob
      have ea : askD m nj = pcD t.1 := by
        unfold askD
        rw [hxp]
      have tk : js.take (j + 1) = js.take j ++ [nj] := by
        rw [List.take_succ, hnj]
        rfl
      refine g_name ?_
      try dsimp only
      refine s_seq ⟨_, rfl, p, C, dxG, _, _, rfl, hpG, T.cl, T.aP, fl_pieces _ _ _ _ _ _ , .int nj, rfl, pp, .ref t.2, rfl, by rw [← hv]; exact DGet.k (k := .inl nj) BG.pp', g_name ?_⟩
      try dsimp only
      have e1 : Ev (tFld K (tVar 3) "stretch") [some (.ref p), some (.ref L), some (.int nj), some (.ref t.2)] G (.ref tt) := fun G1 x Q' q' => ⟨_, rfl, t.2, Cp, dq, _, _, rfl, x _ _ hq, T2.cl, T2.nS, pl_stretch _ _ _, q' G1 (Ex.refl G1)⟩
      have e2 : Ev (tFld K (tVar 3) "under_way") [some (.ref p), some (.ref L), some (.int nj), some (.ref t.2)] G (.bl t.1.uw) := fun G1 x Q' q' => ⟨_, rfl, t.2, Cp, dq, _, _, rfl, x _ _ hq, T2.cl, T2.nU, pl_way _ _ _, q' G1 (Ex.refl G1)⟩
      have e3 : Ev (tOp rNotN (tFld K (tVar 3) "came") (tC .non)) [some (.ref p), some (.ref L), some (.int nj), some (.ref t.2)] G (.bl t.1.came.isSome) := fun G1 x Q' q' => ⟨_, rfl, t.2, Cp, dq, _, _, rfl, x _ _ hq, T2.cl, T2.nC, pl_came _ _ _, rfl, by rw [hcn]; exact q' G1 (Ex.refl G1)⟩
      refine s_appU hLG (ev_var rfl) (eu_tup (ea_cons (ev_var rfl) (ea_cons e1 (ea_cons e2 (ea_cons e3 ea_nil)))) (by simp)) (by omega) fun t4 G4 n4 x4 h4 => ?_
      have b4 : Bar L G4 (upd G4 L (.lst (us ++ [.ref t4]))) := (Bar.refl L G4).put
      have hL4 := x4 _ _ hLG
      have kt := kt_put (ws := us ++ [.ref t4]) hL4
      refine ⟨_, _, us ++ [.ref t4], rfl, fun a o h => b4 a o (ne_of_none h hL) (x4 a o (xG a o h)), b4 _ _ nlL (x4 _ _ hlj), upd_same, by rw [List.length_append]; simp only [List.length_cons, List.length_nil]; omega, ?_⟩
      rw [tk, List.map_append]
      refine kt.dps (n := 2) (fun e me => ?_) (dps_app (dps_same x4 _ _ dA) (.cons ?_ .nil))
      · rcases List.mem_append.mp me with me | me
        · obtain ⟨r, _, rfl⟩ := List.mem_map.mp me
          exact nl_ask m r
        · rw [List.mem_singleton.mp me]
          exact nl_ask m nj
      · rw [ea]
        subst en
        exact .tup (st_of h4) (.cons (.int _) (.cons (.tup (Evl.ex_t x4 hts) (.cons (.int _) (.cons (.int _) .nil))) (.cons (.bl _) (.cons (.bl _) .nil))))
    · obtain ⟨y2, y3, us, rfl, xG, hlj, hLG, ul, dA⟩ := pj
      rw [List.length_map, List.take_length] at dA
      exact ⟨.ref L, rfl, q L us js G hL xG hLG pm up dA⟩
end
end K27
/-! a caught exception asked for its classes; which field it has -/
namespace Tc
open PySem L2 L2H PyProof.Rows Evl
/-- a rule that is wanted on one way alone -/
def tXc (c : Prop) (te : TE) : TE := fun σ H Q => c ∧ te σ H Q
theorem pe_c {X : Cx} {e : Expr} {te : TE} {c : Prop} (h : c → PE X e te) : PE X e (tXc c te) := ⟨fun pins s σ H Q I w => (h w.1).run pins s σ H Q I w.2⟩
/-- names of classes, and whether D is one of them -/
inductive ClsAt (X : Cx) (D : Addr) : List Expr → List Addr → Bool → Prop
  | nil : ClsAt X D [] [] false
  | cons {x : Str} {p : Pos} {b r : Bool} {es : List Expr} {cs : List Addr} (g : Gl X x) (hd : (x == ("__debug__" : Str)) = false) (hm : ∃ c, X.mg x = some (.ref c) ∧ PySem.W.kitOne X.K (.ref D) (.ref c) = some b) (t : ClsAt X D es cs r) : ClsAt X D (.Name x p :: es) (Classical.choose hm :: cs) (b || r)
theorem ClsAt.any {X : Cx} {D : Addr} {es : List Expr} {cs : List Addr} {b : Bool} (h : ClsAt X D es cs b) : PySem.W.kitAny X.K (.ref D) (cs.map Value.ref) = some b := by
  induction h with
  | nil => rfl
  | @cons x p b r es cs g hd hm t ih =>
    have e := (Classical.choose_spec hm).2
    rw [List.map_cons, PySem.W.kitAny, e]
    cases b with
    | true => rfl
    | false => exact ih
/-- the reading of (A, B, ..) -/
theorem ClsAt.pa {X : Cx} {D : Addr} {es : List Expr} {cs : List Addr} {b : Bool} (h : ClsAt X D es cs b) (hst : ∀ x (p : Pos) rest, starEach (.Name x p :: rest) X.env = (false, eval (.Name x p) X.env) :: starEach rest X.env) : ∃ t : TA, PA X es t ∧ ∀ σ H (Q : List V → Hp → Prop), Q (cs.map V.ref) H → t σ H Q := by
  induction h with
  | nil => exact ⟨tNil, pa_nil, fun σ H Q q => q⟩
  | @cons x p b r es cs g hd hm t ih =>
    obtain ⟨tt, ht, hq⟩ := ih
    refine ⟨tCons (tC (.ref (Classical.choose hm))) tt, pa_cons (pe_glob (v := .ref (Classical.choose hm)) g (Classical.choose_spec hm).1 rfl hd) ht (hst _ _ _), fun σ H Q q => hq σ H _ q⟩
/-- isinstance(e, (A, B, ..)) -/
def tIsM (pt : Addr × Obj) (d : Option Addr) (b : Bool) (te : TE) : TE := fun σ H Q => te σ H fun v H1 => v = .ref pt.1 ∧ (∀ a, d = some a → ∃ fs, H1 a = some (.xd fs)) ∧ ∀ H2, Ex H1 H2 → Q (.bl b) H2
theorem pe_isT1 {X : Cx} {D : Addr} {d : Option Addr} {pt : Addr × Obj} {y : Str} {i : Nat} {p p1 p2 pos : Pos} {k2} {es : List Expr} {cs : List Addr} {b : Bool} (C : ExK X.K D) (hp : pt ∈ X.pn) (hx : IsEx D d pt) (gi : Gl X "isinstance") (ni : X.mg "isinstance" = none) (hst : ∀ x (p : Pos) rest, starEach (.Name x p :: rest) X.env = (false, eval (.Name x p) X.env) :: starEach rest X.env) (he : PE X (.Name y p1) (tVar i)) (h : ClsAt X D es cs b)
    (hs : starEach [.Name y p1, .Tuple es k2 p2] X.env = (false, eval (.Name y p1) X.env) :: starEach [.Tuple es k2 p2] X.env := by rfl) (hs2 : starEach [.Tuple es k2 p2] X.env = (false, eval (.Tuple es k2 p2) X.env) :: starEach [] X.env := by rfl) (hn : cs.length ≤ 1000 := by simp) :
    PE X (.Call (.Name "isinstance" p) [.Name y p1, .Tuple es k2 p2] [] pos) (tIsM pt d b (tVar i)) := by
  obtain ⟨t, ht, hq⟩ := h.pa hst
  have r := pe_callB (pos := pos) (p := p) (call_isT C hp hx) gi ni boot_isinstance (pa_cons he (pa_cons (pe_tup ht) pa_nil hs2) hs)
  refine ⟨fun pins s σ H Q I w => r.run pins s σ H Q I ?_⟩
  obtain ⟨v, h1, rfl, h2, q⟩ := w
  refine ⟨_, h1, hq _ _ _ ⟨sz_of (by rw [List.length_map]; omega), fun tp htp => ⟨tp, cs, b, rfl, st_of upd_same, fun a e => ?_, h.any, q _ (Ex.new htp)⟩⟩⟩
  obtain ⟨fs, z⟩ := h2 a e
  exact ⟨fs, Ex.new htp _ _ z⟩
theorem ev_isM {pt : Addr × Obj} {d : Option Addr} {b : Bool} {te : TE} {σ : L2.St} {H : Hp} (h : Ev te σ H (.ref pt.1)) (hd : ∀ a, d = some a → ∃ fs, H a = some (.xd fs)) : Ev (tIsM pt d b te) σ H (.bl b) := fun H1 e Q q => h H1 e _ fun H2 e2 => ⟨rfl, xs_ex (e.trans e2) hd, fun H3 e3 => q H3 (e2.trans e3)⟩
/-- which field is told -/
def fieldOf (fl : List Bool) : Option Str := if ((fl.getD 8 false || (fl.getD 22 false || false))) = true then some "at" else if ((fl.getD 6 false || (fl.getD 3 false || false))) = true then some "who" else if ((fl.getD 9 false || (fl.getD 24 false || (fl.getD 16 false || (fl.getD 19 false || false))))) = true then some "number" else if ((fl.getD 5 false || (fl.getD 20 false || false))) = true then some "key" else if fl.getD 14 false = true then some "name" else if fl.getD 21 false = true then some "many" else none
/-- the field told, or None -/
def spFieldN (K : PySem.W.Frag) (mg : Str → Option Value) : SpP := fun p vs H Q _ => ∃ (D : Addr) (d : Option Addr) (fl : List Bool), vs = [.ref p.1] ∧ Kd K mg D fl ∧ XfC K D ∧ IsEx D d p ∧ (∀ a, d = some a → ∃ fs, H a = some (.xd fs)) ∧
  (∀ n, fieldOf fl = some n → PySem.W.findIn K (.ref D) n = some none ∧ ∃ (b : Addr) (fs : List (Str × V)) (v : V), d = some b ∧ H b = some (.xd fs) ∧ fs.lookup n = some v ∧ ∀ H', Ex H H' → Q v H') ∧ (fieldOf fl = none → ∀ H', Ex H H' → Q .non H')
def tFlN (K : PySem.W.Frag) (mg : Str → Option Value) (a : Addr) (cls : Value) (d : Option Addr) (i : Nat) : TE := fun σ H Q => σ[i]? = some (some (.ref a)) ∧ ∃ (D : Addr) (fl : List Bool), cls = .ref D ∧ Kd K mg D fl ∧ XfC K D ∧ (∀ a, d = some a → ∃ fs, H a = some (.xd fs)) ∧
  (∀ n, fieldOf fl = some n → PySem.W.findIn K (.ref D) n = some none ∧ ∃ (b : Addr) (fs : List (Str × V)) (v : V), d = some b ∧ H b = some (.xd fs) ∧ fs.lookup n = some v ∧ ∀ H', Ex H H' → Q v H') ∧ (fieldOf fl = none → ∀ H', Ex H H' → Q .non H')
theorem pe_flN {X : Cx} {a : Addr} {oe : Obj} {cls : Value} {d : Option Addr} {pn : List (Addr × Obj)} {i j k : Nat} {y : Str} {p p1 pos : Pos} (hz : L2N.Zn cls d oe) (hf : ∃ vs, oe.data = .fields vs) (dF : OwnP X.prog X.w X.K X.mg X.base "_law_field" ["e"] k (spFieldN X.K X.mg)) (hr : Room j X.A) (hj : k ≤ j) (hg : Gl X "_law_field") (he : PE (X.suite a ((a, oe) :: pn)) (.Name y p1) (tVar i)) :
    PE (X.suite a ((a, oe) :: pn)) (.Call (.Name "_law_field" p) [.Name y p1] [] pos) (tFlN X.K X.mg a cls d i) := by
  have r := pe_ownP (X := X.suite a ((a, oe) :: pn)) (p := p) (pos := pos) dF (hot_suite hz hf) (roomH_mark hr _) hj hg (pa_cons he pa_nil)
  refine ⟨fun pins s σ H Q I h => r.run pins s σ H Q I ?_⟩
  obtain ⟨h1, D, fl, e, kd, T, hd, q1, q2⟩ := h
  subst e
  exact ⟨_, h1, D, d, fl, rfl, kd, T, ⟨hz.1, hz.2.1, hf⟩, hd, q1, q2⟩
end Tc
namespace K27
open PySem L2 L2H PyProof.Rows Tc Evl
abbrev sField : Stmt := topS 63
abbrev sTtr : Stmt := topS 68
theorem scField : FnScope ["e"] ["e"] (defScope sField) := ⟨rfl, rfl, rfl, by decide +kernel, rfl, by decide +kernel, by decide +kernel⟩
theorem scTtr : FnScope ["taker", "step", "kind", "field", "e"] ["taker", "step"] (defScope sTtr) := ⟨rfl, rfl, rfl, by decide +kernel, rfl, by decide +kernel, by decide +kernel⟩
/-- the refusals of a taker -/
inductive Rt where
  | waits | twice | noStretch | noRows | notAsked
def rtX : Rt → Str
  | .waits => "Waits" | .twice => "Twice" | .noStretch => "NoStretch" | .noRows => "NoRows" | .notAsked => "NotAsked"
def rtI : Rt → Nat × Nat
  | .waits => (0, 24) | .twice => (1, 23) | .noStretch => (1, 12) | .noRows => (1, 11) | .notAsked => (0, 16)
def rtF (r : Rt) : List Bool := (List.range 26).map fun i => decide (i = (rtI r).1 ∨ i = (rtI r).2 ∨ i = 25)
def rtT : Rt → Str
  | .waits => "asked Waits+" | .twice => "told Twice+" | .noStretch => "told NoStretch+" | .noRows => "told NoRows+" | .notAsked => "asked NotAsked+"
def rtN : Rt → Option Str
  | .waits => some "number" | .notAsked => some "number" | _ => none
theorem rt_text (r : Rt) : Txt.join "" (kindsL (rtF r)) = rtT r := by cases r <;> decide +kernel
theorem rt_field (r : Rt) : fieldOf (rtF r) = rtN r := by cases r <;> decide +kernel
/-- the steps of a taker -/
inductive TSt where
  | take (d : PyData) | ask (i a b : Int) | answer (i : Int) (d : PyData) | give (i : Int)
def tsD : TSt → List PyData
  | .take d => [.str "take", d] | .ask i a b => [.str "ask", .int i, .int a, .int b] | .answer i d => [.str "answer", .int i, d] | .give i => [.str "give", .int i]
def tsOk : TSt → Prop
  | .take d => goodEn allKs d = true ∧ (chsD d).length ≤ 100 ∧ (numOf d).natAbs.log2 < 1920 | .ask _ _ _ => True | .answer i _ => i.natAbs.log2 < 1920 | .give i => i.natAbs.log2 < 1920
/-- what comes of a step -/
inductive TRes where
  | ok (m : TM)
  | no (r : Rt) (i : Option Int)
def rowD : PyData → Int × Int
  | .tuple [.int k, .int z] => (k, z)
  | _ => (0, 0)
def rowsOfD : PyData → List (Int × Int)
  | .tuple ds => ds.map rowD
  | _ => []
theorem rows_ofD (rs : List (Int × Int)) : rowsOfD (rowsD rs) = rs := by
  show (rs.map Tc.pairD).map rowD = rs
  rw [List.map_map]
  conv => rhs; rw [← List.map_id rs]
  exact List.map_congr_left fun r _ => rfl
def tdo (m : TM) : TSt → TRes
  | .take d => match tTake m d with
    | some m' => .ok m'
    | none => .no .waits (some (numOf d))
  | .ask i a b => if i ∈ m.nums then .no .twice none else if 0 ≤ a ∧ a < b ∧ b ≤ 1000 then .ok { m with pcs := m.pcs ++ [⟨i, a, b, false, none⟩], nums := m.nums ++ [i] } else .no .noStretch none
  | .answer i d => match pcOf m i with
    | none => .no .notAsked (some i)
    | some x => if x.came.isSome = true then .no .twice none else if rowsB x.lo x.hi d = true then .ok { m with pcs := m.pcs.map (upP i (cmP (rowsOfD d))) } else .no .noRows none
  | .give i => match pcOf m i with
    | none => .no .notAsked (some i)
    | some _ => .ok { m with pcs := m.pcs.filter fun x => !decide (x.num = i) }
theorem tdo_no {m : TM} {s : TSt} {r : Rt} {i : Option Int} (h : tdo m s = .no r i) : (rtN r).isSome = i.isSome := by
  cases s <;> dsimp only [tdo] at h <;> repeat' (split at h)
  all_goals first
    | (cases h; rfl)
    | cases h
def iV : Option Int → V
  | none => .non
  | some i => .int i
structure TFew (m : TM) : Prop where
  ev : m.ev.length ≤ 5000
  nl : m.nums.length ≤ 10000
  pl : m.pcs.length ≤ 10000
def spTtr (K : PySem.W.Frag) (C Cp : Addr) : Sp := fun vs H Q _ => ∃ (p st : Addr) (m : TM) (X : Addr → Prop) (s : TSt) (us : List V), vs = [.ref p, .ref st] ∧ TkM K C Cp H p m X ∧ TFew m ∧ SqT K H st us ∧ DpAll K H us (tsD s) ∧ tsOk s ∧
  (∀ m', tdo m s = .ok m' → ∀ t H', TOut K C Cp H p X m' H' → H' t = some (.tup [.str "", .non]) → Q (.ref t) H') ∧
  (∀ r i, tdo m s = .no r i → ∀ t H', Ex H H' → H' t = some (.tup [.str (rtT r), iV i]) → Q (.ref t) H')
/-- the classes of the refusals -/
structure RtX (K : PySem.W.Frag) (mg : Str → Option Value) (CE : Addr) (cx : Rt → Addr) : Prop where
  ex : ∀ r, ExC K mg (rtX r) (cx r) (rtF r)
  on : ∀ r, PySem.W.exmOne K (.ref (cx r)) (.ref CE) = some true
  no : ∀ r n, rtN r = some n → PySem.W.findIn K (.ref (cx r)) n = some none
theorem dps_consT {K : PySem.W.Frag} {H : Hp} {us : List V} {d : PyData} {ds : List PyData} (h : DpAll K H us (d :: ds)) : ∃ u vs, us = u :: vs ∧ Dp K H u d ∧ DpAll K H vs ds := by
  cases h with
  | cons a b => exact ⟨_, _, rfl, a, b⟩
theorem tk_ob {K : PySem.W.Frag} {C Cp : Addr} {H : Hp} {p : Addr} {m : TM} {X : Addr → Prop} (S : TkM K C Cp H p m X) (nm : Str) (h : (nm == ("own_life" : Str)) = false ∧ (nm == ("at" : Str)) = false ∧ (nm == ("known" : Str)) = false ∧ (nm == ("given" : Str)) = false ∧ (nm == ("pieces" : Str)) = false ∧ (nm == ("numbers" : Str)) = false) : ∃ dx fs, H p = some (.ins C dx fs) ∧ fs.lookup nm = none := by
  obtain ⟨d, g, pp, nn, kvs, gv, l, B, fx⟩ := S
  obtain ⟨dx, hp⟩ := B.at'.ob
  exact ⟨dx, _, hp, fl_no _ _ _ _ _ _ h⟩
section
variable {P : Program} {w : World} {K : PySem.W.Frag} {mg : Str → Option Value} {base : Heap}
abbrev sKinds : Stmt := topS 52
theorem scKinds : FnScope ["e", "some", "words", "k"] ["e"] (defScope sKinds) := ⟨rfl, rfl, rfl, by decide +kernel, rfl, by decide +kernel, by decide +kernel⟩
set_option maxHeartbeats 2000000 in
theorem ok_kinds {f : Addr} {fd : FuncData} {k : Nat} (F : Fun K "_law_kinds" "_law_kinds" sKinds f fd) (N : Names mg) : FnP P w K mg base CX0 (k + 1) f fd ["e"] (spKinds K mg) := by
  refine okP F scKinds (fun p vs H Q E h => ?_) (fun cdv A outer s H vs Q E p hot hr h => ?_)
  · obtain ⟨D, d, fl, rfl, _⟩ := h
    rfl
  · obtain ⟨D, d, fl, rfl, C, hx, hd, q⟩ := h
    have hp : HotP (cxH CX0 P w K mg base ["e", "some", "words", "k"] "_law_kinds" (defScope sKinds) f cdv A outer s H E p) p := ⟨⟨hot.1, hot.2⟩, List.mem_singleton.mpr rfl⟩
    refine ⟨_, (pss_cons (ps_set (i := 1) scKinds.nd rfl (.inr rfl) (pe_lst (pa_cons (pe_is1 C.ck hp.2 hx (by rfl) N.isinstance (by rfl) (C.one 0 _ rfl) (pv 0)) (pa_cons (pe_is1 C.ck hp.2 hx (by rfl) N.isinstance (by rfl) (C.one 1 _ rfl) (pv 0)) (pa_cons (pe_is1 C.ck hp.2 hx (by rfl) N.isinstance (by rfl) (C.one 2 _ rfl) (pv 0)) (pa_cons (pe_is1 C.ck hp.2 hx (by rfl) N.isinstance (by rfl) (C.one 3 _ rfl) (pv 0)) pa_nil))))))
      (pss_cons (ps_set (i := 1) scKinds.nd rfl (.inr rfl) (pe_op op_cat (pv 1) (pe_lst (pa_cons (pe_is1 C.ck hp.2 hx (by rfl) N.isinstance (by rfl) (C.one 4 _ rfl) (pv 0)) (pa_cons (pe_is1 C.ck hp.2 hx (by rfl) N.isinstance (by rfl) (C.one 5 _ rfl) (pv 0)) (pa_cons (pe_is1 C.ck hp.2 hx (by rfl) N.isinstance (by rfl) (C.one 6 _ rfl) (pv 0)) (pa_cons (pe_is1 C.ck hp.2 hx (by rfl) N.isinstance (by rfl) (C.one 7 _ rfl) (pv 0)) pa_nil)))))))
      (pss_cons (ps_set (i := 1) scKinds.nd rfl (.inr rfl) (pe_op op_cat (pv 1) (pe_lst (pa_cons (pe_is1 C.ck hp.2 hx (by rfl) N.isinstance (by rfl) (C.one 8 _ rfl) (pv 0)) (pa_cons (pe_is1 C.ck hp.2 hx (by rfl) N.isinstance (by rfl) (C.one 9 _ rfl) (pv 0)) (pa_cons (pe_is1 C.ck hp.2 hx (by rfl) N.isinstance (by rfl) (C.one 10 _ rfl) (pv 0)) (pa_cons (pe_is1 C.ck hp.2 hx (by rfl) N.isinstance (by rfl) (C.one 11 _ rfl) (pv 0)) pa_nil)))))))
      (pss_cons (ps_set (i := 1) scKinds.nd rfl (.inr rfl) (pe_op op_cat (pv 1) (pe_lst (pa_cons (pe_is1 C.ck hp.2 hx (by rfl) N.isinstance (by rfl) (C.one 12 _ rfl) (pv 0)) (pa_cons (pe_is1 C.ck hp.2 hx (by rfl) N.isinstance (by rfl) (C.one 13 _ rfl) (pv 0)) (pa_cons (pe_is1 C.ck hp.2 hx (by rfl) N.isinstance (by rfl) (C.one 14 _ rfl) (pv 0)) (pa_cons (pe_is1 C.ck hp.2 hx (by rfl) N.isinstance (by rfl) (C.one 15 _ rfl) (pv 0)) pa_nil)))))))
      (pss_cons (ps_set (i := 1) scKinds.nd rfl (.inr rfl) (pe_op op_cat (pv 1) (pe_lst (pa_cons (pe_is1 C.ck hp.2 hx (by rfl) N.isinstance (by rfl) (C.one 16 _ rfl) (pv 0)) (pa_cons (pe_is1 C.ck hp.2 hx (by rfl) N.isinstance (by rfl) (C.one 17 _ rfl) (pv 0)) (pa_cons (pe_is1 C.ck hp.2 hx (by rfl) N.isinstance (by rfl) (C.one 18 _ rfl) (pv 0)) pa_nil))))))
      (pss_cons (ps_set (i := 1) scKinds.nd rfl (.inr rfl) (pe_op op_cat (pv 1) (pe_lst (pa_cons (pe_is1 C.ck hp.2 hx (by rfl) N.isinstance (by rfl) (C.one 19 _ rfl) (pv 0)) (pa_cons (pe_is1 C.ck hp.2 hx (by rfl) N.isinstance (by rfl) (C.one 20 _ rfl) (pv 0)) (pa_cons (pe_is1 C.ck hp.2 hx (by rfl) N.isinstance (by rfl) (C.one 21 _ rfl) (pv 0)) (pa_cons (pe_is1 C.ck hp.2 hx (by rfl) N.isinstance (by rfl) (C.one 22 _ rfl) (pv 0)) pa_nil)))))))
      (pss_cons (ps_set (i := 1) scKinds.nd rfl (.inr rfl) (pe_op op_cat (pv 1) (pe_lst (pa_cons (pe_is1 C.ck hp.2 hx (by rfl) N.isinstance (by rfl) (C.one 23 _ rfl) (pv 0)) (pa_cons (pe_is1 C.ck hp.2 hx (by rfl) N.isinstance (by rfl) (C.one 24 _ rfl) (pv 0)) (pa_cons (pe_isV C.ck hp.2 hx (by rfl) N.isinstance (by rfl) N.ve C.ve (pv 0)) pa_nil))))))
      (pss_cons (ps_set (i := 2) scKinds.nd rfl (.inr rfl) (pe_lst (pa_cons pe_str (pa_cons pe_str (pa_cons pe_str (pa_cons pe_str (pa_cons pe_str (pa_cons pe_str (pa_cons pe_str (pa_cons pe_str (pa_cons pe_str (pa_cons pe_str pa_nil))))))))))))
      (pss_cons (ps_set (i := 2) scKinds.nd rfl (.inr rfl) (pe_op op_cat (pv 2) (pe_lst (pa_cons pe_str (pa_cons pe_str (pa_cons pe_str (pa_cons pe_str (pa_cons pe_str (pa_cons pe_str (pa_cons pe_str (pa_cons pe_str pa_nil)))))))))))
      (pss_cons (ps_set (i := 2) scKinds.nd rfl (.inr rfl) (pe_op op_cat (pv 2) (pe_lst (pa_cons pe_str (pa_cons pe_str (pa_cons pe_str (pa_cons pe_str (pa_cons pe_str (pa_cons pe_str (pa_cons pe_str (pa_cons pe_str pa_nil)))))))))))
      (pss_one (ps_ret (pe_join pe_str (pe_lcH (own := [("k", 3)]) (g := gName 3) (tt := tB (tOp (rIxL K) (tVar 1) (tVar 3))) (te := tOp (rIxL K) (tVar 2) (tVar 3)) hp scKinds.nd (pi_range1H (by rfl) N.range (pa_cons pe_int pa_nil)) (blkOk_by (N := ["e", "some", "words", "k"]) (sc := defScope sKinds) (by decide +kernel)) (fun _ _ _ _ _ => pg_name (i := 3) scKinds.nd rfl (Or.inl rfl)) (fun _ _ _ _ _ => (pts_one (pt_val (pe_ix ix_list (pv 1) (pv 3) (fun _ _ => rfl))))) (fun _ _ _ _ _ => (pe_ix ix_list (pv 2) (pv 3) (fun _ _ => rfl))))))))))))))))), ?_⟩
    refine q_asgL (el_lst (ea_cons (ev_is1 (ev_var rfl) (xs_ex (Ex.refl H) hd)) (ea_cons (ev_is1 (ev_var rfl) (xs_ex (Ex.refl H) hd)) (ea_cons (ev_is1 (ev_var rfl) (xs_ex (Ex.refl H) hd)) (ea_cons (ev_is1 (ev_var rfl) (xs_ex (Ex.refl H) hd)) ea_nil)))) (by simp)) (fun p0 H0 _ x0 h0 => ?_)
    refine q_asgL (el_catV (ev_var rfl) h0 (el_lst (ea_cons (ev_is1 (ev_var rfl) (xs_ex x0 hd)) (ea_cons (ev_is1 (ev_var rfl) (xs_ex x0 hd)) (ea_cons (ev_is1 (ev_var rfl) (xs_ex x0 hd)) (ea_cons (ev_is1 (ev_var rfl) (xs_ex x0 hd)) ea_nil)))) (by simp)) (by simp)) (fun p1 H1 _ y1 h1 => ?_)
    have x1 := x0.trans y1
    refine q_asgL (el_catV (ev_var rfl) h1 (el_lst (ea_cons (ev_is1 (ev_var rfl) (xs_ex x1 hd)) (ea_cons (ev_is1 (ev_var rfl) (xs_ex x1 hd)) (ea_cons (ev_is1 (ev_var rfl) (xs_ex x1 hd)) (ea_cons (ev_is1 (ev_var rfl) (xs_ex x1 hd)) ea_nil)))) (by simp)) (by simp)) (fun p2 H2 _ y2 h2 => ?_)
    have x2 := x1.trans y2
    refine q_asgL (el_catV (ev_var rfl) h2 (el_lst (ea_cons (ev_is1 (ev_var rfl) (xs_ex x2 hd)) (ea_cons (ev_is1 (ev_var rfl) (xs_ex x2 hd)) (ea_cons (ev_is1 (ev_var rfl) (xs_ex x2 hd)) (ea_cons (ev_is1 (ev_var rfl) (xs_ex x2 hd)) ea_nil)))) (by simp)) (by simp)) (fun p3 H3 _ y3 h3 => ?_)
    have x3 := x2.trans y3
    refine q_asgL (el_catV (ev_var rfl) h3 (el_lst (ea_cons (ev_is1 (ev_var rfl) (xs_ex x3 hd)) (ea_cons (ev_is1 (ev_var rfl) (xs_ex x3 hd)) (ea_cons (ev_is1 (ev_var rfl) (xs_ex x3 hd)) ea_nil))) (by simp)) (by simp)) (fun p4 H4 _ y4 h4 => ?_)
    have x4 := x3.trans y4
    refine q_asgL (el_catV (ev_var rfl) h4 (el_lst (ea_cons (ev_is1 (ev_var rfl) (xs_ex x4 hd)) (ea_cons (ev_is1 (ev_var rfl) (xs_ex x4 hd)) (ea_cons (ev_is1 (ev_var rfl) (xs_ex x4 hd)) (ea_cons (ev_is1 (ev_var rfl) (xs_ex x4 hd)) ea_nil)))) (by simp)) (by simp)) (fun p5 H5 _ y5 h5 => ?_)
    have x5 := x4.trans y5
    refine q_asgL (el_catV (ev_var rfl) h5 (el_lst (ea_cons (ev_is1 (ev_var rfl) (xs_ex x5 hd)) (ea_cons (ev_is1 (ev_var rfl) (xs_ex x5 hd)) (ea_cons (ev_is1 (ev_var rfl) (xs_ex x5 hd)) ea_nil))) (by simp)) (by simp)) (fun p6 H6 _ y6 h6 => ?_)
    have x6 := x5.trans y6
    refine q_asgL (el_lst (ea_cons ev_c (ea_cons ev_c (ea_cons ev_c (ea_cons ev_c (ea_cons ev_c (ea_cons ev_c (ea_cons ev_c (ea_cons ev_c (ea_cons ev_c (ea_cons ev_c ea_nil)))))))))) (by simp)) (fun p7 H7 _ y7 h7 => ?_)
    have x7 := x6.trans y7
    refine q_asgL (el_catV (ev_var rfl) h7 (el_lst (ea_cons ev_c (ea_cons ev_c (ea_cons ev_c (ea_cons ev_c (ea_cons ev_c (ea_cons ev_c (ea_cons ev_c (ea_cons ev_c ea_nil)))))))) (by simp)) (by simp)) (fun p8 H8 _ y8 h8 => ?_)
    have x8 := x7.trans y8
    refine q_asgL (el_catV (ev_var rfl) h8 (el_lst (ea_cons ev_c (ea_cons ev_c (ea_cons ev_c (ea_cons ev_c (ea_cons ev_c (ea_cons ev_c (ea_cons ev_c (ea_cons ev_c ea_nil)))))))) (by simp)) (by simp)) (fun p9 H9 _ y9 h9 => ?_)
    have x9 := x8.trans y9
    rw [flags_eq fun i => V.bl (fl.getD i false)] at h6
    exact kinds_end (v := .ref p.1) (((y7.trans y8).trans y9) p6 _ h6) h9 fun H' x' => q H' (x9.trans x')
set_option maxHeartbeats 2000000 in
theorem ok_field {f : Addr} {fd : FuncData} {k : Nat} (F : Fun K "_law_field" "_law_field" sField f fd) (N : Names mg) : FnP P w K mg base CX0 (k + 1) f fd ["e"] (spFieldN K mg) := by
  refine okP F scField (fun p vs H Q E h => ?_) (fun cdv A outer s H vs Q E p hot hr h => ?_)
  · obtain ⟨D, d, fl, rfl, _⟩ := h
    rfl
  · obtain ⟨D, d, fl, rfl, C, T, hx, hd, q1, q2⟩ := h
    have hp : HotP (cxH CX0 P w K mg base ["e"] "_law_field" (defScope sField) f cdv A outer s H E p) p := ⟨⟨hot.1, hot.2⟩, List.mem_singleton.mpr rfl⟩
    have hno : ∀ m : Str, fieldOf fl = some m → PySem.W.findIn K (.ref D) m = some none := fun m e => (q1 m e).1
    refine ⟨_, (pss_cons (ps_if (pt_val (pe_isT1 C.ck hp.2 hx (by rfl) N.isinstance (fun _ _ _ => rfl) (pv 0) (.cons (by rfl) (by decide) (C.one 8 _ rfl) (.cons (by rfl) (by decide) (C.one 22 _ rfl) .nil)))) (pss_one (ps_ret (pe_c (c := fieldOf fl = some (Str.ofString "at")) fun h => pe_xp T (hno _ h) hp.2 hx (pv 0)))) pss_nil)
      (pss_cons (ps_if (pt_val (pe_isT1 C.ck hp.2 hx (by rfl) N.isinstance (fun _ _ _ => rfl) (pv 0) (.cons (by rfl) (by decide) (C.one 6 _ rfl) (.cons (by rfl) (by decide) (C.one 3 _ rfl) .nil)))) (pss_one (ps_ret (pe_c (c := fieldOf fl = some (Str.ofString "who")) fun h => pe_xp T (hno _ h) hp.2 hx (pv 0)))) pss_nil)
      (pss_cons (ps_if (pt_val (pe_isT1 C.ck hp.2 hx (by rfl) N.isinstance (fun _ _ _ => rfl) (pv 0) (.cons (by rfl) (by decide) (C.one 9 _ rfl) (.cons (by rfl) (by decide) (C.one 24 _ rfl) (.cons (by rfl) (by decide) (C.one 16 _ rfl) (.cons (by rfl) (by decide) (C.one 19 _ rfl) .nil)))))) (pss_one (ps_ret (pe_c (c := fieldOf fl = some (Str.ofString "number")) fun h => pe_xp T (hno _ h) hp.2 hx (pv 0)))) pss_nil)
      (pss_cons (ps_if (pt_val (pe_isT1 C.ck hp.2 hx (by rfl) N.isinstance (fun _ _ _ => rfl) (pv 0) (.cons (by rfl) (by decide) (C.one 5 _ rfl) (.cons (by rfl) (by decide) (C.one 20 _ rfl) .nil)))) (pss_one (ps_ret (pe_c (c := fieldOf fl = some (Str.ofString "key")) fun h => pe_xp T (hno _ h) hp.2 hx (pv 0)))) pss_nil)
      (pss_cons (ps_if (pt_val (pe_is1 C.ck hp.2 hx (by rfl) N.isinstance (by rfl) (C.one 14 _ rfl) (pv 0))) (pss_one (ps_ret (pe_c (c := fieldOf fl = some (Str.ofString "name")) fun h => pe_xp T (hno _ h) hp.2 hx (pv 0)))) pss_nil)
      (pss_one (ps_ret (pe_ifExp (pt_val (pe_is1 C.ck hp.2 hx (by rfl) N.isinstance (by rfl) (C.one 21 _ rfl) (pv 0))) (pe_c (c := fieldOf fl = some (Str.ofString "many")) fun h => pe_xp T (hno _ h) hp.2 hx (pv 0)) pe_non)))))))), ?_⟩
    have tell : ∀ (m : Str) (G : Hp) (D' : Ends), fieldOf fl = some m → Ex H G → (∀ v H', D'.rt v H' = Q v H') → tRet (tXc (fieldOf fl = some m) (tXp p d m (tVar 0))) D' [some (.ref p.1)] G := fun m G D' e x hD => by
      obtain ⟨_, b, fs, v, eb, hb, hl, q⟩ := q1 m e
      refine ⟨e, .ref p.1, rfl, rfl, b, fs, v, eb, x _ _ hb, hl, ?_⟩
      rw [hD]
      exact q G x
    refine s_seq (s_if (b := (fl.getD 8 false || (fl.getD 22 false || false))) (et_B (ev_isM (ev_var rfl) (xs_ex (Ex.refl H) hd))) (fun c0 G0 y0 => tell "at" G0 _ (by unfold fieldOf; rw [if_pos c0]) (((Ex.refl H)).trans y0) fun _ _ => rfl) fun c0 G0 y0 => s_next ?_)
    have x0 := ((Ex.refl H)).trans y0
    refine s_seq (s_if (b := (fl.getD 6 false || (fl.getD 3 false || false))) (et_B (ev_isM (ev_var rfl) (xs_ex x0 hd))) (fun c1 G1 y1 => tell "who" G1 _ (by unfold fieldOf; rw [if_neg (by rw [c0]; exact Bool.false_ne_true), if_pos c1]) ((x0).trans y1) fun _ _ => rfl) fun c1 G1 y1 => s_next ?_)
    have x1 := (x0).trans y1
    refine s_seq (s_if (b := (fl.getD 9 false || (fl.getD 24 false || (fl.getD 16 false || (fl.getD 19 false || false))))) (et_B (ev_isM (ev_var rfl) (xs_ex x1 hd))) (fun c2 G2 y2 => tell "number" G2 _ (by unfold fieldOf; rw [if_neg (by rw [c0]; exact Bool.false_ne_true), if_neg (by rw [c1]; exact Bool.false_ne_true), if_pos c2]) ((x1).trans y2) fun _ _ => rfl) fun c2 G2 y2 => s_next ?_)
    have x2 := (x1).trans y2
    refine s_seq (s_if (b := (fl.getD 5 false || (fl.getD 20 false || false))) (et_B (ev_isM (ev_var rfl) (xs_ex x2 hd))) (fun c3 G3 y3 => tell "key" G3 _ (by unfold fieldOf; rw [if_neg (by rw [c0]; exact Bool.false_ne_true), if_neg (by rw [c1]; exact Bool.false_ne_true), if_neg (by rw [c2]; exact Bool.false_ne_true), if_pos c3]) ((x2).trans y3) fun _ _ => rfl) fun c3 G3 y3 => s_next ?_)
    have x3 := (x2).trans y3
    refine s_seq (s_if (b := fl.getD 14 false) (et_B (ev_is1 (ev_var rfl) (xs_ex x3 hd))) (fun c4 G4 y4 => tell "name" G4 _ (by unfold fieldOf; rw [if_neg (by rw [c0]; exact Bool.false_ne_true), if_neg (by rw [c1]; exact Bool.false_ne_true), if_neg (by rw [c2]; exact Bool.false_ne_true), if_neg (by rw [c3]; exact Bool.false_ne_true), if_pos c4]) ((x3).trans y4) fun _ _ => rfl) fun c4 G4 y4 => s_next ?_)
    have x4 := (x3).trans y4
    dsimp only
    unfold tRet tIf
    refine (et_B (ev_is1 (pt := p) (d := d) (b := fl.getD 21 false) (te := tVar 0) (σ := [some (.ref p.1)]) (H := G4) (ev_var rfl) (xs_ex x4 hd))) G4 (Ex.refl G4) _ fun G9 y9 => ?_
    refine ite2 (fun c9 => ?_) (fun c9 => ?_)
    · exact (tell "many" G9 { nx := fun _ H' => Q .non H', rt := Q } (by unfold fieldOf; rw [if_neg (by rw [c0]; exact Bool.false_ne_true), if_neg (by rw [c1]; exact Bool.false_ne_true), if_neg (by rw [c2]; exact Bool.false_ne_true), if_neg (by rw [c3]; exact Bool.false_ne_true), if_neg (by rw [c4]; exact Bool.false_ne_true), if_pos c9]) ((x4).trans y9) fun _ _ => rfl)
    · refine q2 ?_ G9 ((x4).trans y9)
      unfold fieldOf
      rw [if_neg (by rw [c0]; exact Bool.false_ne_true), if_neg (by rw [c1]; exact Bool.false_ne_true), if_neg (by rw [c2]; exact Bool.false_ne_true), if_neg (by rw [c3]; exact Bool.false_ne_true), if_neg (by rw [c4]; exact Bool.false_ne_true), if_neg c9]

set_option maxHeartbeats 2000000 in
theorem ok_ttr {f C Cp CE : Addr} {fd : FuncData} {cx : Rt → Addr} {kTk kAs kAn kGu kKn kF k : Nat} (F : Fun K "_law_taker_tried" "_law_taker_tried" sTtr f fd) (T : Txt K mg C) (mE : mg "TideError" = some (.ref CE)) (RX : RtX K mg CE cx)
    (dTk : MethX P w K mg base C "take" ["self", "entry"] kTk (spTakeX K C Cp (cx .waits))) (hTk : kTk ≤ k) (dAs : MethX P w K mg base C "ask" ["self", "number", "first", "last"] kAs (spAskX K C Cp (cx .twice) (cx .noStretch))) (hAs : kAs ≤ k) (dAn : MethX P w K mg base C "answer" ["self", "number", "rows"] kAn (spAnsX K C Cp (cx .notAsked) (cx .twice) (cx .noRows))) (hAn : kAn ≤ k) (dGu : MethX P w K mg base C "give_up" ["self", "number"] kGu (spGup K C Cp (cx .notAsked))) (hGu : kGu ≤ k)
    (dKn : OwnP P w K mg base "_law_kinds" ["e"] kKn (spKinds K mg)) (hKn : kKn ≤ k) (dF : OwnP P w K mg base "_law_field" ["e"] kF (spFieldN K mg)) (hF : kF ≤ k) :
    FnOk P w K mg base CX0 (k + 1) f fd ["taker", "step"] (spTtr K C Cp) := by
  refine F.ok scTtr (fun vs H Q E h => ?_) (fun cdv A outer s H vs Q E hr h => ?_)
  · obtain ⟨p, st, m, X, sp, us, rfl, _⟩ := h
    rfl
  · obtain ⟨p, st, m, X, sp, us, rfl, S, few, hst, du, ok, q1, q2⟩ := h
    refine ⟨_, pss_cons (ps_set (i := 2) scTtr.nd rfl (.inl rfl) pe_str)
      (pss_cons (ps_set (i := 3) scTtr.nd rfl (.inl rfl) pe_non)
      (pss_cons (L2N.ps_try_as (i := 4) (c := .ref CE) (tb := fun W => tIfS (tTest (tOp rEq (tOp (rIxT K) (tVar 1) (tC (.int 0))) (tC (.str "take")))) (tDrop (tMethX C "take" (spTakeX K C Cp (cx .waits)) (WE W) (tVar 0) (tCons (tOp (rIxT K) (tVar 1) (tC (.int 1))) tNil))) (tIfS (tTest (tOp rEq (tOp (rIxT K) (tVar 1) (tC (.int 0))) (tC (.str "ask")))) (tDrop (tMethX C "ask" (spAskX K C Cp (cx .twice) (cx .noStretch)) (WE W) (tVar 0) (tCons (tOp (rIxT K) (tVar 1) (tC (.int 1))) (tCons (tOp (rIxT K) (tVar 1) (tC (.int 2))) (tCons (tOp (rIxT K) (tVar 1) (tC (.int 3))) tNil))))) (tIfS (tTest (tOp rEq (tOp (rIxT K) (tVar 1) (tC (.int 0))) (tC (.str "answer")))) (tDrop (tMethX C "answer" (spAnsX K C Cp (cx .notAsked) (cx .twice) (cx .noRows)) (WE W) (tVar 0) (tCons (tOp (rIxT K) (tVar 1) (tC (.int 1))) (tCons (tOp (rIxT K) (tVar 1) (tC (.int 2))) tNil)))) (tDrop (tMethX C "give_up" (spGup K C Cp (cx .notAsked)) (WE W) (tVar 0) (tCons (tOp (rIxT K) (tVar 1) (tC (.int 1))) tNil)))))) (ts := fun a cls d => tPar 2 3 (tCons (tKn K mg a cls d 4) (tCons (tFlN K mg a cls d 4) tNil))) rfl rfl scTtr.nd rfl rfl ⟨rfl, by decide, .inl mE⟩ none_out
        (fun W pn xe tk _ => pss_one (ps_if (pt_cmpR op_eq (pe_ix ix_tup (pv 1) pe_int (fun _ _ => rfl)) pe_str (nomark _)) (pss_one (ps_expr (pe_methX dTk tk hr hTk T.cl (pv 0) (pa_cons (pe_ix ix_tup (pv 1) pe_int (fun _ _ => rfl)) pa_nil)))) (pss_one (ps_if (pt_cmpR op_eq (pe_ix ix_tup (pv 1) pe_int (fun _ _ => rfl)) pe_str (nomark _)) (pss_one (ps_expr (pe_methX dAs tk hr hAs T.cl (pv 0) (pa_cons (pe_ix ix_tup (pv 1) pe_int (fun _ _ => rfl)) (pa_cons (pe_ix ix_tup (pv 1) pe_int (fun _ _ => rfl)) (pa_cons (pe_ix ix_tup (pv 1) pe_int (fun _ _ => rfl)) pa_nil)))))) (pss_one (ps_if (pt_cmpR op_eq (pe_ix ix_tup (pv 1) pe_int (fun _ _ => rfl)) pe_str (nomark _)) (pss_one (ps_expr (pe_methX dAn tk hr hAn T.cl (pv 0) (pa_cons (pe_ix ix_tup (pv 1) pe_int (fun _ _ => rfl)) (pa_cons (pe_ix ix_tup (pv 1) pe_int (fun _ _ => rfl)) pa_nil))))) (pss_one (ps_expr (pe_methX dGu tk hr hGu T.cl (pv 0) (pa_cons (pe_ix ix_tup (pv 1) pe_int (fun _ _ => rfl)) pa_nil))))))))))
        (fun a oe cls d pn hz hf => pss_one (ps_parH (i := 2) (j := 3) (hot_suite hz hf).c scTtr.nd rfl rfl (by decide) rfl rfl (pa_cons (pe_kn hz hf dKn hr hKn (by rfl) (pv 4)) (pa_cons (pe_flN hz hf dF hr hF (by rfl) (pv 4)) pa_nil)) rfl)))
      (pss_one (ps_ret (pe_tup (pa_cons (pv 2) (pa_cons (pv 3) pa_nil))))))), ?_⟩
    refine q_asg ev_c fun H1 x1 => q_asg ev_c fun H2 x2 => s_seq ?_
    have xa := x1.trans x2
    have S3 := S.ex xa
    have hst3 := Evl.ex_t xa hst
    have du3 := dps_same xa _ _ du
    have okR : ∀ {m' : TM}, tdo m sp = .ok m' → ∀ {H5 : Hp}, TOut K C Cp H2 p X m' H5 → ∀ {t : Addr}, H5 t = none → Q (.ref t) (upd H5 t (.tup [.str "", .non])) := fun e H5 o t ht => q1 _ e t _ ((o.pre xa).post (Ex.new ht)) upd_same
    dsimp only
    cases sp with
    | take d =>
      obtain ⟨u0, us0, rfl, h0, du0⟩ := dps_consT (show DpAll K H2 us (_ :: _) from du3)
      obtain ⟨u1, us1, rfl, h1, du1⟩ := dps_consT du0
      cases h0
      cases du1
      refine s_if (b := true) (et_is (et_test (ev_op (ev_ix0 (ev_var rfl) hst3) ev_c (rv_eq rfl))) (by decide +kernel)) (fun _ H4 x4 => ?_) fun z => by cases z
      obtain ⟨dx, fs, hp, hno⟩ := tk_ob (S3.ex x4) "take" (by decide +kernel)
      refine ⟨.ref p, rfl, p, dx, fs, rfl, hp, hno, .ref st, rfl, st, _, 1, u1, rfl, rfl, Evl.ex_t x4 hst3, rfl, p, m, X, u1, d, rfl, S3.ex x4, dp_same x4 _ _ h1, ok.1, ok.2.1, ok.2.2, few.ev, fun e d' H5 nd x5 h5 => ?_, fun m' e H5 o => ?_⟩
      · refine ⟨true, RX.on .waits, fun _ a na => ⟨rfl, cx .waits, rtF .waits, rfl, (RX.ex .waits).kd, (fun c e => ⟨_, Option.some.inj e ▸ h5⟩), fun H6 x6 => ⟨rfl, cx .waits, rtF .waits, rfl, (RX.ex .waits).kd, (RX.ex .waits).xf, (fun c e => ⟨_, Option.some.inj e ▸ x6 _ _ h5⟩), (fun n' e' => ?_), fun e => by rw [rt_field] at e; cases e⟩⟩, fun e => by cases e⟩
        rw [rt_field] at e'
        cases e'
        refine ⟨RX.no .waits "number" rfl, d', _, .int (numOf d), rfl, x6 _ _ h5, ?_, fun H7 x7 => ?_⟩
        · show List.lookup "number" [("number", V.int (numOf d))] = some (.int (numOf d))
          rw [List.lookup_cons, beq_self_eq_true]
        rw [rt_text]
        exact ⟨.str (rtT .waits), .int (numOf d), rfl, .str (rtT .waits), rfl, .int (numOf d), rfl, sz_of (by simp), fun t ht => q2 .waits (some (numOf d)) (by dsimp only [tdo]; rw [e]) t _ (((xa.trans (x4.trans x5)).trans (x6.trans x7)).trans (Ex.new ht)) upd_same⟩
      · exact ⟨.str "", rfl, .non, rfl, sz_of (by simp), fun t ht => okR (by dsimp only [tdo]; rw [e]) (o.pre x4) ht⟩
    | ask i a b =>
      obtain ⟨u0, us0, rfl, h0, du0⟩ := dps_consT (show DpAll K H2 us (_ :: _) from du3)
      obtain ⟨u1, us1, rfl, h1, du1⟩ := dps_consT du0
      obtain ⟨u2, us2, rfl, h2, du2⟩ := dps_consT du1
      obtain ⟨u3, us3, rfl, h3, du3'⟩ := dps_consT du2
      cases h0
      cases h1
      cases h2
      cases h3
      cases du3'
      refine s_if (b := false) (et_is (et_test (ev_op (ev_ix0 (ev_var rfl) hst3) ev_c (rv_eq rfl))) (by decide +kernel)) (fun z => by cases z) fun _ H4 x4 => ?_
      have hst4 := Evl.ex_t x4 hst3
      refine s_if (b := true) (et_is (et_test (ev_op (ev_ix0 (ev_var rfl) hst4) ev_c (rv_eq rfl))) (by decide +kernel)) (fun _ H5 x5 => ?_) fun z => by cases z
      have x45 := x4.trans x5
      have hst5 := Evl.ex_t x5 hst4
      obtain ⟨dx, fs, hp, hno⟩ := tk_ob (S3.ex x45) "ask" (by decide +kernel)
      refine ⟨.ref p, rfl, p, dx, fs, rfl, hp, hno, .ref st, rfl, st, _, 1, .int i, rfl, rfl, hst5, rfl, .ref st, rfl, st, _, 2, .int a, rfl, rfl, hst5, rfl, .ref st, rfl, st, _, 3, .int b, rfl, rfl, hst5, rfl, p, m, X, i, a, b, rfl, S3.ex x45, few.nl, few.pl, fun hi H8 x8 => ?_, fun hi hs H8 x8 => ?_, fun hi hs H8 o => ?_⟩
      · refine ⟨true, RX.on .twice, fun _ a na => ⟨rfl, cx .twice, rtF .twice, rfl, (RX.ex .twice).kd, (fun b e => by cases e), fun H6 x6 => ⟨rfl, cx .twice, rtF .twice, rfl, (RX.ex .twice).kd, (RX.ex .twice).xf, (fun b e => by cases e), (fun n e => by rw [rt_field] at e; cases e), fun _ H7 x7 => ?_⟩⟩, fun e => by cases e⟩
        rw [rt_text]
        exact ⟨.str (rtT .twice), .non, rfl, .str (rtT .twice), rfl, .non, rfl, sz_of (by simp), fun t ht => q2 .twice none (by dsimp only [tdo]; rw [if_pos hi]) t _ (((xa.trans (x45.trans x8)).trans (x6.trans x7)).trans (Ex.new ht)) upd_same⟩
      · refine ⟨true, RX.on .noStretch, fun _ a na => ⟨rfl, cx .noStretch, rtF .noStretch, rfl, (RX.ex .noStretch).kd, (fun b e => by cases e), fun H6 x6 => ⟨rfl, cx .noStretch, rtF .noStretch, rfl, (RX.ex .noStretch).kd, (RX.ex .noStretch).xf, (fun b e => by cases e), (fun n e => by rw [rt_field] at e; cases e), fun _ H7 x7 => ?_⟩⟩, fun e => by cases e⟩
        rw [rt_text]
        exact ⟨.str (rtT .noStretch), .non, rfl, .str (rtT .noStretch), rfl, .non, rfl, sz_of (by simp), fun t ht => q2 .noStretch none (by dsimp only [tdo]; rw [if_neg hi, if_neg hs]) t _ (((xa.trans (x45.trans x8)).trans (x6.trans x7)).trans (Ex.new ht)) upd_same⟩
      · exact ⟨.str "", rfl, .non, rfl, sz_of (by simp), fun t ht => okR (by dsimp only [tdo]; rw [if_neg hi, if_pos hs]) (o.pre x45) ht⟩
    | answer i d =>
      obtain ⟨u0, us0, rfl, h0, du0⟩ := dps_consT (show DpAll K H2 us (_ :: _) from du3)
      obtain ⟨u1, us1, rfl, h1, du1⟩ := dps_consT du0
      obtain ⟨u2, us2, rfl, h2, du2⟩ := dps_consT du1
      cases h0
      cases h1
      cases du2
      refine s_if (b := false) (et_is (et_test (ev_op (ev_ix0 (ev_var rfl) hst3) ev_c (rv_eq rfl))) (by decide +kernel)) (fun z => by cases z) fun _ H4 x4 => ?_
      have hst4 := Evl.ex_t x4 hst3
      refine s_if (b := false) (et_is (et_test (ev_op (ev_ix0 (ev_var rfl) hst4) ev_c (rv_eq rfl))) (by decide +kernel)) (fun z => by cases z) fun _ H5 x5 => ?_
      have hst5 := Evl.ex_t x5 hst4
      refine s_if (b := true) (et_is (et_test (ev_op (ev_ix0 (ev_var rfl) hst5) ev_c (rv_eq rfl))) (by decide +kernel)) (fun _ H6 x6 => ?_) fun z => by cases z
      have x46 := (x4.trans x5).trans x6
      have hst6 := Evl.ex_t x6 hst5
      obtain ⟨dx, fs, hp, hno⟩ := tk_ob (S3.ex x46) "answer" (by decide +kernel)
      refine ⟨.ref p, rfl, p, dx, fs, rfl, hp, hno, .ref st, rfl, st, _, 1, .int i, rfl, rfl, hst6, rfl, .ref st, rfl, st, _, 2, u2, rfl, rfl, hst6, rfl, p, m, X, i, u2, d, rfl, S3.ex x46, ok, dp_same x46 _ _ h2, fun hn d' H8 nd x8 h5 => ?_, fun x hx hc H8 x8 => ?_, fun x hx hc hb H8 x8 => ?_, fun x rs hx hc hb hd H8 o => ?_⟩
      · refine ⟨true, RX.on .notAsked, fun _ a na => ⟨rfl, cx .notAsked, rtF .notAsked, rfl, (RX.ex .notAsked).kd, (fun c e => ⟨_, Option.some.inj e ▸ h5⟩), fun H6 x6 => ⟨rfl, cx .notAsked, rtF .notAsked, rfl, (RX.ex .notAsked).kd, (RX.ex .notAsked).xf, (fun c e => ⟨_, Option.some.inj e ▸ x6 _ _ h5⟩), (fun n' e' => ?_), fun e => by rw [rt_field] at e; cases e⟩⟩, fun e => by cases e⟩
        rw [rt_field] at e'
        cases e'
        refine ⟨RX.no .notAsked "number" rfl, d', _, .int i, rfl, x6 _ _ h5, ?_, fun H7 x7 => ?_⟩
        · show List.lookup "number" [("number", V.int i)] = some (.int i)
          rw [List.lookup_cons, beq_self_eq_true]
        rw [rt_text]
        exact ⟨.str (rtT .notAsked), .int i, rfl, .str (rtT .notAsked), rfl, .int i, rfl, sz_of (by simp), fun t ht => q2 .notAsked (some i) (by simp [tdo, hn]) t _ (((xa.trans (x46.trans x8)).trans (x6.trans x7)).trans (Ex.new ht)) upd_same⟩
      · refine ⟨true, RX.on .twice, fun _ a na => ⟨rfl, cx .twice, rtF .twice, rfl, (RX.ex .twice).kd, (fun b e => by cases e), fun H6 x6 => ⟨rfl, cx .twice, rtF .twice, rfl, (RX.ex .twice).kd, (RX.ex .twice).xf, (fun b e => by cases e), (fun n e => by rw [rt_field] at e; cases e), fun _ H7 x7 => ?_⟩⟩, fun e => by cases e⟩
        rw [rt_text]
        exact ⟨.str (rtT .twice), .non, rfl, .str (rtT .twice), rfl, .non, rfl, sz_of (by simp), fun t ht => q2 .twice none (by simp [tdo, hx, hc]) t _ (((xa.trans (x46.trans x8)).trans (x6.trans x7)).trans (Ex.new ht)) upd_same⟩
      · refine ⟨true, RX.on .noRows, fun _ a na => ⟨rfl, cx .noRows, rtF .noRows, rfl, (RX.ex .noRows).kd, (fun b e => by cases e), fun H6 x6 => ⟨rfl, cx .noRows, rtF .noRows, rfl, (RX.ex .noRows).kd, (RX.ex .noRows).xf, (fun b e => by cases e), (fun n e => by rw [rt_field] at e; cases e), fun _ H7 x7 => ?_⟩⟩, fun e => by cases e⟩
        rw [rt_text]
        exact ⟨.str (rtT .noRows), .non, rfl, .str (rtT .noRows), rfl, .non, rfl, sz_of (by simp), fun t ht => q2 .noRows none (by simp [tdo, hx, hc, hb]) t _ (((xa.trans (x46.trans x8)).trans (x6.trans x7)).trans (Ex.new ht)) upd_same⟩
      · subst hd
        exact ⟨.str "", rfl, .non, rfl, sz_of (by simp), fun t ht => okR (by simp [tdo, hx, hc, hb, rows_ofD]) (o.pre x46) ht⟩
    | give i =>
      obtain ⟨u0, us0, rfl, h0, du0⟩ := dps_consT (show DpAll K H2 us (_ :: _) from du3)
      obtain ⟨u1, us1, rfl, h1, du1⟩ := dps_consT du0
      cases h0
      cases h1
      cases du1
      refine s_if (b := false) (et_is (et_test (ev_op (ev_ix0 (ev_var rfl) hst3) ev_c (rv_eq rfl))) (by decide +kernel)) (fun z => by cases z) fun _ H4 x4 => ?_
      have hst4 := Evl.ex_t x4 hst3
      refine s_if (b := false) (et_is (et_test (ev_op (ev_ix0 (ev_var rfl) hst4) ev_c (rv_eq rfl))) (by decide +kernel)) (fun z => by cases z) fun _ H5 x5 => ?_
      have hst5 := Evl.ex_t x5 hst4
      refine s_if (b := false) (et_is (et_test (ev_op (ev_ix0 (ev_var rfl) hst5) ev_c (rv_eq rfl))) (by decide +kernel)) (fun z => by cases z) fun _ H6 x6 => ?_
      have x46 := (x4.trans x5).trans x6
      have hst6 := Evl.ex_t x6 hst5
      obtain ⟨dx, fs, hp, hno⟩ := tk_ob (S3.ex x46) "give_up" (by decide +kernel)
      refine ⟨.ref p, rfl, p, dx, fs, rfl, hp, hno, .ref st, rfl, st, _, 1, .int i, rfl, rfl, hst6, rfl, p, m, X, i, rfl, S3.ex x46, ok, fun hn d' H8 nd x8 h5 => ?_, fun x hx H8 o => ?_⟩
      · refine ⟨true, RX.on .notAsked, fun _ a na => ⟨rfl, cx .notAsked, rtF .notAsked, rfl, (RX.ex .notAsked).kd, (fun c e => ⟨_, Option.some.inj e ▸ h5⟩), fun H6 x6 => ⟨rfl, cx .notAsked, rtF .notAsked, rfl, (RX.ex .notAsked).kd, (RX.ex .notAsked).xf, (fun c e => ⟨_, Option.some.inj e ▸ x6 _ _ h5⟩), (fun n' e' => ?_), fun e => by rw [rt_field] at e; cases e⟩⟩, fun e => by cases e⟩
        rw [rt_field] at e'
        cases e'
        refine ⟨RX.no .notAsked "number" rfl, d', _, .int i, rfl, x6 _ _ h5, ?_, fun H7 x7 => ?_⟩
        · show List.lookup "number" [("number", V.int i)] = some (.int i)
          rw [List.lookup_cons, beq_self_eq_true]
        rw [rt_text]
        exact ⟨.str (rtT .notAsked), .int i, rfl, .str (rtT .notAsked), rfl, .int i, rfl, sz_of (by simp), fun t ht => q2 .notAsked (some i) (by simp [tdo, hn]) t _ (((xa.trans (x46.trans x8)).trans (x6.trans x7)).trans (Ex.new ht)) upd_same⟩
      · exact ⟨.str "", rfl, .non, rfl, sz_of (by simp), fun t ht => okR (by simp [tdo, hx]) (o.pre x46) ht⟩
end
end K27
namespace K27
open PySem L2 PyProof.Rows Tc Evl
section
variable {P : Program} {w : World} {K : PySem.W.Frag} {mg : Str → Option Value} {base : Heap}
/-- what is begun with -/
def spansIn (sp : List (Int × Int)) : Prop := ∀ r ∈ sp, 0 ≤ r.1 ∧ r.1 ≤ r.2 ∧ r.2 ≤ 1000
def learnS (f : Kn) (sp rws : List (Int × Int)) : Kn := sp.foldl (fun f r => learnP f r.1 r.2 rws) f
def spBegin (K : PySem.W.Frag) (C : Addr) : Sp := fun vs H Q _ => ∃ (p d g pp nn sv : Addr) (life at' at2 : Int) (kvs : List (Key × V)) (gv : List V) (f : Kn) (rws sp : List (Int × Int)), vs = [.ref p, .ref sv] ∧ TkAt C H p d g pp nn life at' kvs gv ∧ KD kvs f ∧ Dp K H (.ref sv) (.tuple [.int at2, rowsD rws, rowsD sp]) ∧ rws.length ≤ 5000 ∧ spansIn sp ∧
  ∀ kvs' H', Off3 p d g H H' → H' g = some (.lst gv) → TkAt C H' p d g pp nn life at2 kvs' gv → KD kvs' (learnS f sp rws) → Q .non H'
end
section
variable {P : Program} {w : World} {K : PySem.W.Frag} {mg : Str → Option Value} {base : Heap}
abbrev mBegin : Stmt := inClass sTaker 1
theorem scBegin : FnScope ["self", "saved", "rows", "sure", "first", "last"] ["self", "saved"] (defScope mBegin) := ⟨rfl, rfl, rfl, by decide +kernel, rfl, by decide +kernel, by decide +kernel⟩
set_option maxHeartbeats 1000000 in
theorem ok_begin {f C : Addr} {fd : FuncData} {kLp k : Nat} (F : Fun K "begin_with" "Taker.begin_with" mBegin f fd) (T : Txt K mg C) (dLp : Own P w K mg base "learn_piece" ["known", "stretch", "rows"] kLp (spLp K)) (hLp : kLp ≤ k) : FnOk P w K mg base CX0 (k + 1) f fd ["self", "saved"] (spBegin K C) := by
  refine F.ok scBegin (fun vs H Q E h => ?_) (fun cdv A outer s H vs Q E hr h => ?_)
  · obtain ⟨p, d, g, pp, nn, sv, life, at', at2, kvs, gv, f, rws, sp, rfl, _⟩ := h
    rfl
  · obtain ⟨p, d, g, pp, nn, sv, life, at', at2, kvs, gv, f, rws, sp, rfl, S, kd, hsv, rl, hsp, q⟩ := h
    refine ⟨_, (pss_cons (ps_asg (pv 1) (pg_tup rfl (pgs_cons (pg_fldT (pv 0)) (pgs_cons (pg_name (i := 2) scBegin.nd rfl (.inl rfl)) (pgs_cons (pg_name (i := 3) scBegin.nd rfl (.inl rfl)) pgs_nil))))) (pss_one (ps_for PassesOwn.never rfl (pi_tup (pv 3)) (pg_tup rfl (pgs_cons (pg_name (i := 4) scBegin.nd rfl (.inl rfl)) (pgs_cons (pg_name (i := 5) scBegin.nd rfl (.inl rfl)) pgs_nil))) (pss_one (ps_expr (pe_own dLp hr hLp (by rfl) (pa_cons (pe_fld (pv 0) rfl) (pa_cons (pe_tup (pa_cons (pv 4) (pa_cons (pv 5) pa_nil))) (pa_cons (pv 2) pa_nil))))))))), ?_⟩
    obtain ⟨dx, hp⟩ := S.ob
    obtain ⟨sva, u0, u1, u2, e, ht, h0, h1, h2⟩ := dpt3 hsv
    cases e
    cases h0
    have bp : ∀ a o, a ≠ p → H a = some o → (upd H p (.ins C dx (flds life at2 d g pp nn))) a = some o := fun a o n h => by rw [upd_ne n]; exact h
    refine s_seq ⟨.ref sv, rfl, sv, _, rfl, ht, rfl, _, _, rfl, ?_⟩
    refine ⟨_, rfl, p, C, dx, _, rfl, hp, T.cl, T.aA, by show 6 < 1000; decide, ?_⟩
    rw [fl_put]
    refine ⟨_, _, rfl, _, _, rfl, rfl, ?_⟩
    dsimp only
    have S1 : TkAt C (upd H p (.ins C dx (flds life at2 d g pp nn))) p d g pp nn life at2 kvs gv := S.on
    have h1' := dp_o (K := K) hp bp _ _ h1
    have h2' := dp_o (K := K) hp bp _ _ h2
    have off1 : ∀ a o, a ≠ p → H a = some o → (upd H p (.ins C dx (flds life at2 d g pp nn))) a = some o := bp
    generalize hH1 : upd H p (.ins C dx (flds life at2 d g pp nn)) = H1 at S1 h1' h2' off1
    obtain ⟨ps, xs, rfl, hps, hxs, xl⟩ := rows_at_ref h2'
    refine s_forT (K := K) (a := ps) (xs := xs) (ev_var rfl) hps (fun j σ' G => ∃ y4 y5 kvs', σ' = [some (.ref p), some (.ref sv), some u1, some (.ref ps), y4, y5] ∧ Bar d H1 G ∧ G d = some (.dK kvs') ∧ KD kvs' (learnS f (sp.take j) rws)) (fun G x => ⟨none, none, kvs, rfl, Bar.ex x, x _ _ S1.dc, kd⟩) (fun j σ' G _ ⟨_, _, _, _, b, _⟩ => bar_t S1.dc b hps) (fun j x σ' G hx p' => ?_) (fun σ' G p' => ?_)
    · obtain ⟨y4, y5, kvs', rfl, b, hd', kd'⟩ := p'
      obtain ⟨dd, hdd, hxd⟩ := dps_at (dps_bar S1.dc b _ _ hxs) hx
      rw [List.getElem?_map] at hdd
      obtain ⟨r, hr', rfl⟩ := Option.map_eq_some_iff.mp hdd
      obtain ⟨pa, v0, v1, rfl, hpa, e0, e1⟩ := dpt2 hxd
      cases e0
      cases e1
      obtain ⟨r1, r2, r3⟩ := hsp r (List.mem_of_getElem? hr')
      refine ⟨pa, _, rfl, hpa, rfl, _, _, rfl, _, _, rfl, rfl, ?_⟩
      dsimp only
      have gd : g ≠ d := fun z => by
        have := S1.gl
        rw [z, S1.dc] at this
        cases this
      have SG : TkAt C G p d g pp nn life at2 kvs' gv := S1.off (fun a o n _ z => b a o n z) hd' (b _ _ gd S1.gl)
      obtain ⟨dxG, hpG⟩ := SG.ob
      refine ⟨_, rfl, p, C, dxG, _, _, rfl, hpG, T.cl, T.aK, fl_known _ _ _ _ _ _, _, rfl, _, rfl, sz_of (by simp), fun t ht' => ?_⟩
      have xt : Ex G (upd G t (.tup [.int r.1, .int r.2])) := Ex.new ht'
      have htt : (upd G t (.tup [.int r.1, .int r.2])) t = some (.tup [.int r.1, .int r.2]) := upd_same
      generalize hG2 : upd G t (.tup [.int r.1, .int r.2]) = G2 at xt htt
      refine ⟨_, rfl, d, t, kvs', _, u1, rws, r.1, r.2, rfl, xt _ _ hd', kd', st_of htt, r1, r2, r3, dp_same xt _ _ (dp_bar S1.dc b _ _ h1'), rl, fun pn kvs2 G3 _ b3 _ hd3 kd3 => ⟨_, _, kvs2, rfl, (b.trans (Bar.ex xt)).trans b3, hd3, ?_⟩⟩
      unfold learnS at kd3 ⊢
      rw [take_rows sp hr', List.foldl_append]
      exact kd3
    · obtain ⟨y4, y5, kvs', rfl, b, hd', kd'⟩ := p'
      rw [xl, List.take_length] at kd'
      have gd : g ≠ d := fun z => by
        have := S1.gl
        rw [z, S1.dc] at this
        cases this
      exact q kvs' G (fun a o n1 n2 _ z => b a o n2 (off1 a o n1 z)) (b _ _ gd S1.gl) (S1.off (fun a o n _ z => b a o n z) hd' (b _ _ gd S1.gl)) kd'
end
abbrev mInit : Stmt := inClass sTaker 0
theorem scInit : FnScope ["self", "life", "place", "saved"] ["self", "life", "place", "saved"] (defScope mInit) := ⟨rfl, rfl, rfl, by decide +kernel, rfl, by decide +kernel, by decide +kernel⟩
theorem flds_made (life at' : Int) (d g pp nn : Addr) : putF "numbers" (.ref nn) (putF "pieces" (.ref pp) (putF "given" (.ref g) (putF "known" (.ref d) (putF "at" (.int at') (putF "own_life" (.int life) []))))) = flds life at' d g pp nn := by
  simp only [flds, putF]
  rfl
def spInitM (K : PySem.W.Frag) (C Cp : Addr) : Sp := fun vs H Q _ => ∃ (p dx : Addr) (life at0 : Int) (sv : V), vs = [.ref p, .int life, .int at0, sv] ∧ H p = some (.ins C dx []) ∧
  ((sv = .non ∧ ∀ X' H', TkM K C Cp H' p ⟨life, at0, fun _ => none, [], [], []⟩ X' → (∀ a o, a ≠ p → H a = some o → H' a = some o) → (∀ a, X' a → a = p ∨ H a = none) → Q .non H') ∨
  (∃ (at2 : Int) (rws sp : List (Int × Int)), Dp K H sv (.tuple [.int at2, rowsD rws, rowsD sp]) ∧ rws.length ≤ 5000 ∧ spansIn sp ∧ ∀ X' H', TkM K C Cp H' p ⟨life, at2, learnS (fun _ => none) sp rws, [], [], []⟩ X' → (∀ a o, a ≠ p → H a = some o → H' a = some o) → (∀ a, X' a → a = p ∨ H a = none) → Q .non H'))
section
variable {P : Program} {w : World} {K : PySem.W.Frag} {mg : Str → Option Value} {base : Heap}
set_option maxHeartbeats 1000000 in
theorem ok_initM {f C Cp fB : Addr} {fd fdB : FuncData} {kB k : Nat} (F : Fun K "__init__" "Taker.__init__" mInit f fd) (T : Txt K mg C) (FB : FnOk P w K mg base CX0 kB fB fdB ["self", "saved"] (spBegin K C)) (bB : Binds K fdB ["self", "saved"] []) (mB : Meth K C "begin_with" fB) (hB : kB ≤ k) : FnOk P w K mg base CX0 (k + 1) f fd ["self", "life", "place", "saved"] (spInitM K C Cp) := by
  refine F.ok scInit (fun vs H Q E h => ?_) (fun cdv A outer s H vs Q E hr h => ?_)
  · obtain ⟨p, dx, life, at0, sv, rfl, _⟩ := h
    rfl
  · obtain ⟨p, dx, life, at0, sv, rfl, hp, hcase⟩ := h
    refine ⟨_, (pss_cons (ps_fld (pv 0) (pv 1) rfl)
      (pss_cons (ps_fld (pv 0) (pv 2) rfl)
      (pss_cons (ps_fld (pv 0) pe_dnewK rfl)
      (pss_cons (ps_fld (pv 0) (pe_lst pa_nil) rfl)
      (pss_cons (ps_fld (pv 0) pe_dnewK rfl)
      (pss_cons (ps_fld (pv 0) pe_dnewK rfl)
      (pss_one (ps_if (pt_cmpR op_notN1 (pv 3) pe_non (nomark _)) (pss_one (ps_expr (pe_meth (pv 0) T.cl mB FB (hr.mono hB) bB .nil pass0 (pa_cons (pv 3) pa_nil)))) pss_nil)))))))), ?_⟩
    have n0 : ([] : List (Str × V)).length ≤ 0 := Nat.le_refl _
    have n1 : (putF "own_life" (.int life) []).length ≤ 1 := putF_le n0
    have n2 : (putF "at" (.int at0) (putF "own_life" (.int life) [])).length ≤ 2 := putF_le n1
    -- own_life, at
    refine s_seq ⟨.int life, rfl, .ref p, rfl, p, C, dx, [], rfl, hp, T.cl, T.aL, by show 0 < 1000; decide, ?_⟩
    refine s_seq ⟨.int at0, rfl, .ref p, rfl, p, C, dx, _, rfl, upd_same, T.cl, T.aA, by omega, ?_⟩
    rw [upd_upd]
    have bb2 : ∀ a o, a ≠ p → H a = some o → (upd H p (.ins C dx (putF "at" (.int at0) (putF "own_life" (.int life) [])))) a = some o := fun a o n h => by rw [upd_ne n]; exact h
    have hp2 : (upd H p (.ins C dx (putF "at" (.int at0) (putF "own_life" (.int life) [])))) p = some (.ins C dx (putF "at" (.int at0) (putF "own_life" (.int life) []))) := upd_same
    have free2 : ∀ a, (upd H p (.ins C dx (putF "at" (.int at0) (putF "own_life" (.int life) [])))) a = none → H a = none := fun a ha => by
      have ap : a ≠ p := fun z => by rw [z, upd_same] at ha; cases ha
      rw [upd_ne ap] at ha
      exact ha
    generalize hH2 : upd H p (.ins C dx (putF "at" (.int at0) (putF "own_life" (.int life) []))) = H2 at bb2 hp2 free2
    have nF2 := n2
    generalize hF2 : putF "at" (.int at0) (putF "own_life" (.int life) []) = F2 at hp2 nF2
    refine s_seq (fun d hd => ?_)
    have nF3 : (putF "known" (.ref d) F2).length ≤ 3 := putF_le nF2
    obtain ⟨pn2, hq2, hp3, ho2, fr2⟩ := mk_step (o := .dK []) (o2 := .ins C dx (putF "known" (.ref d) F2)) hp2 hd
    refine ⟨.ref p, rfl, p, C, dx, _, rfl, hq2, T.cl, T.aK, by omega, ?_⟩
    dsimp only
    have n02 : H d = none := free2 d hd
    have free3 : ∀ a, (upd (upd H2 d (.dK [])) p (.ins C dx (putF "known" (.ref d) F2))) a = none → H a = none := fun a ha => free2 a (by
      have ap : a ≠ p := fun z => by rw [z, upd_same] at ha; cases ha
      have av : a ≠ d := fun z => by rw [z, ho2] at ha; cases ha
      rw [upd_ne ap, upd_ne av] at ha
      exact ha)
    have bb3 : ∀ a o, a ≠ p → H a = some o → (upd (upd H2 d (.dK [])) p (.ins C dx (putF "known" (.ref d) F2))) a = some o := fun a o m h => fr2 a o m (bb2 a o m h)
    generalize hG2 : upd (upd H2 d (.dK [])) p (.ins C dx (putF "known" (.ref d) F2)) = H3 at hp3 ho2 fr2 free3 bb3
    generalize hF3 : putF "known" (.ref d) F2 = F3 at hp3 nF3
    refine s_seq ⟨Nat.zero_le _, fun g hg => ?_⟩
    have nF4 : (putF "given" (.ref g) F3).length ≤ 4 := putF_le nF3
    obtain ⟨pn3, hq3, hp4, ho3, fr3⟩ := mk_step (o := .lst []) (o2 := .ins C dx (putF "given" (.ref g) F3)) hp3 hg
    refine ⟨.ref p, rfl, p, C, dx, _, rfl, hq3, T.cl, T.aG, by omega, ?_⟩
    dsimp only
    have n03 : H g = none := free3 g hg
    have free4 : ∀ a, (upd (upd H3 g (.lst [])) p (.ins C dx (putF "given" (.ref g) F3))) a = none → H a = none := fun a ha => free3 a (by
      have ap : a ≠ p := fun z => by rw [z, upd_same] at ha; cases ha
      have av : a ≠ g := fun z => by rw [z, ho3] at ha; cases ha
      rw [upd_ne ap, upd_ne av] at ha
      exact ha)
    have bb4 : ∀ a o, a ≠ p → H a = some o → (upd (upd H3 g (.lst [])) p (.ins C dx (putF "given" (.ref g) F3))) a = some o := fun a o m h => fr3 a o m (bb3 a o m h)
    generalize hG3 : upd (upd H3 g (.lst [])) p (.ins C dx (putF "given" (.ref g) F3)) = H4 at hp4 ho3 fr3 free4 bb4
    generalize hF4 : putF "given" (.ref g) F3 = F4 at hp4 nF4
    refine s_seq (fun pp hpp => ?_)
    have nF5 : (putF "pieces" (.ref pp) F4).length ≤ 5 := putF_le nF4
    obtain ⟨pn4, hq4, hp5, ho4, fr4⟩ := mk_step (o := .dK []) (o2 := .ins C dx (putF "pieces" (.ref pp) F4)) hp4 hpp
    refine ⟨.ref p, rfl, p, C, dx, _, rfl, hq4, T.cl, T.aP, by omega, ?_⟩
    dsimp only
    have n04 : H pp = none := free4 pp hpp
    have free5 : ∀ a, (upd (upd H4 pp (.dK [])) p (.ins C dx (putF "pieces" (.ref pp) F4))) a = none → H a = none := fun a ha => free4 a (by
      have ap : a ≠ p := fun z => by rw [z, upd_same] at ha; cases ha
      have av : a ≠ pp := fun z => by rw [z, ho4] at ha; cases ha
      rw [upd_ne ap, upd_ne av] at ha
      exact ha)
    have bb5 : ∀ a o, a ≠ p → H a = some o → (upd (upd H4 pp (.dK [])) p (.ins C dx (putF "pieces" (.ref pp) F4))) a = some o := fun a o m h => fr4 a o m (bb4 a o m h)
    generalize hG4 : upd (upd H4 pp (.dK [])) p (.ins C dx (putF "pieces" (.ref pp) F4)) = H5 at hp5 ho4 fr4 free5 bb5
    generalize hF5 : putF "pieces" (.ref pp) F4 = F5 at hp5 nF5
    refine s_seq (fun nn hnn => ?_)
    have nF6 : (putF "numbers" (.ref nn) F5).length ≤ 6 := putF_le nF5
    obtain ⟨pn5, hq5, hp6, ho5, fr5⟩ := mk_step (o := .dK []) (o2 := .ins C dx (putF "numbers" (.ref nn) F5)) hp5 hnn
    refine ⟨.ref p, rfl, p, C, dx, _, rfl, hq5, T.cl, T.aN, by omega, ?_⟩
    dsimp only
    have n05 : H nn = none := free5 nn hnn
    have free6 : ∀ a, (upd (upd H5 nn (.dK [])) p (.ins C dx (putF "numbers" (.ref nn) F5))) a = none → H a = none := fun a ha => free5 a (by
      have ap : a ≠ p := fun z => by rw [z, upd_same] at ha; cases ha
      have av : a ≠ nn := fun z => by rw [z, ho5] at ha; cases ha
      rw [upd_ne ap, upd_ne av] at ha
      exact ha)
    have bb6 : ∀ a o, a ≠ p → H a = some o → (upd (upd H5 nn (.dK [])) p (.ins C dx (putF "numbers" (.ref nn) F5))) a = some o := fun a o m h => fr5 a o m (bb5 a o m h)
    generalize hG5 : upd (upd H5 nn (.dK [])) p (.ins C dx (putF "numbers" (.ref nn) F5)) = H6 at hp6 ho5 fr5 free6 bb6
    generalize hF6 : putF "numbers" (.ref nn) F5 = F6 at hp6 nF6
    have eF : F6 = flds life at0 d g pp nn := by
      rw [← hF6, ← hF5, ← hF4, ← hF3, ← hF2]
      exact flds_made life at0 d g pp nn
    rw [eF] at hp6
    have dp : d ≠ p := pn2.symm
    have gp : g ≠ p := pn3.symm
    have d4 := fr3 _ _ dp ho2
    have d5 := fr4 _ _ dp d4
    have dpp : d ≠ pp := fun z => by
      rw [z, hpp] at d4
      cases d4
    have dnn : d ≠ nn := fun z => by
      rw [z, hnn] at d5
      cases d5
    have hpp6 := fr5 _ _ pn4.symm ho4
    have ppnn : pp ≠ nn := fun z => by
      have := ho4
      rw [z, hnn] at this
      cases this
    have S6 : TkAt C H6 p d g pp nn life at0 [] [] := ⟨⟨dx, hp6⟩, fr5 _ _ dp d5, fr5 _ _ gp (fr4 _ _ gp ho3), ⟨_, hpp6⟩, ⟨_, ho5⟩, dpp, dnn, ppnn⟩
    have gnp : ∀ x, x ≠ g ∨ H6 x ≠ some (.dK []) := fun x => by
      by_cases z : x = g
      · right
        rw [z, S6.gl]
        exact fun y => by cases y
      · exact .inl z
    have gd : g ≠ d := fun z => by
      have := S6.gl
      rw [z, S6.dc] at this
      cases this
    have gpp : g ≠ pp := fun z => by
      have := S6.gl
      rw [z, hpp6] at this
      cases this
    have gnn : g ≠ nn := fun z => by
      have := S6.gl
      rw [z, ho5] at this
      cases this
    have nd6 : (fpT p d g pp nn []).Nodup := by
      unfold fpT
      simp only [List.map_nil, List.nodup_cons, List.mem_cons, List.not_mem_nil, or_false, not_or, List.nodup_nil, and_true, not_false_eq_true]
      exact ⟨⟨pn2, pn3, pn4, pn5⟩, ⟨gd.symm, dpp, dnn⟩, ⟨gpp, gnn⟩, ppnn⟩
    have fre : ∀ a, a ∈ fpT p d g pp nn [] → a = p ∨ H a = none := fun a ha => by
      simp only [fpT, List.map_nil, List.mem_cons, List.not_mem_nil, or_false] at ha
      rcases ha with rfl | rfl | rfl | rfl | rfl
      · exact .inl rfl
      · exact .inr n02
      · exact .inr n03
      · exact .inr n04
      · exact .inr n05
    have B6 : TkB K C Cp H6 p d g pp nn [] [] [] ⟨life, at0, fun _ => none, [], [], []⟩ := ⟨S6, KD.nil, .nil, (fun e m => by cases m), hpp6, ho5, rfl, List.nodup_nil, (fun x m => by cases m), (fun x m => by cases m), (fun x m => by cases m), nd6⟩
    rcases hcase with ⟨rfl, q⟩ | ⟨at2, rws, sp, hsv, rl, hsp, q⟩
    · refine s_if (b := false) (et_is (et_test (ev_op (ev_var rfl) ev_c fun G _ Q' q' => ⟨rfl, q' G (Ex.refl G)⟩)) (by simp)) (fun z => by cases z) fun _ H7 x7 => s_next ?_
      exact q (fun a => a ∈ fpT p d g pp nn []) H7 ⟨d, g, pp, nn, [], [], [], B6.keep (fun a o _ h => x7 a o h) (Kt.ex x7), fun a => Iff.rfl⟩ (fun a o n h => x7 a o (bb6 a o n h)) fre
    · obtain ⟨sva, rfl⟩ : ∃ a, sv = .ref a := by
        cases hsv with
        | tup _ _ => exact ⟨_, rfl⟩
      have hsv6 : Dp K H6 (.ref sva) (.tuple [.int at2, rowsD rws, rowsD sp]) := dp_o (K := K) hp bb6 _ _ hsv
      refine s_if (b := true) (et_is (et_test (ev_op (ev_var rfl) ev_c fun G _ Q' q' => ⟨rfl, q' G (Ex.refl G)⟩)) (by simp)) (fun _ H7 x7 => ?_) fun z => by cases z
      have B7 := B6.keep (fun a o _ h => x7 a o h) (Kt.ex x7)
      obtain ⟨dx7, hp7⟩ := B7.at'.ob
      refine ⟨_, rfl, p, dx7, _, rfl, hp7, no_begin_with _ _ _ _ _ _, _, rfl, p, d, g, pp, nn, sva, life, at0, at2, [], [], _, rws, sp, rfl, B7.at', KD.nil, dp_same x7 _ _ hsv6, rl, hsp, fun kvs' H8 off hg8 S8 kd8 => ?_⟩
      have B8 := B7.chg off S8 kd8 .nil (fun e m => by cases m)
      exact q (fun a => a ∈ fpT p d g pp nn []) H8 ⟨d, g, pp, nn, kvs', [], [], B8, fun a => Iff.rfl⟩ (fun a o n h => off a o n (fun z => by rw [z, n02] at h; cases h) (fun z => by rw [z, n03] at h; cases h) (x7 a o (bb6 a o n h))) fre

end
end K27
namespace K27
open PySem L2 PyProof.Rows Tc Evl
section
variable {P : Program} {w : World} {K : PySem.W.Frag} {mg : Str → Option Value} {base : Heap}
theorem keys_few {f : Int → Option Int} {js ks : List Int} (h : KeysOf f js) (hj : ∀ j ∈ js, j ∈ ks) : js.length ≤ ks.length := len_sub (h.1.imp fun {a b} z e => by omega) hj
/-- what was saved, its rows and stretches tuples without a dict -/
def SvAt (K : PySem.W.Frag) (H : Hp) (sv : Addr) (at2 : Int) (rws sp : List (Int × Int)) : Prop := ∃ pT pS, SqT K H sv [.int at2, .ref pT, .ref pS] ∧ TP K H pT rws ∧ TP K H pS sp
def spSaved (K : PySem.W.Frag) (C : Addr) : Sp := fun vs H Q _ => ∃ (p d g pp nn : Addr) (life at' : Int) (kvs : List (Key × V)) (gv : List V) (f : Kn) (ks : List Int), vs = [.ref p] ∧ TkAt C H p d g pp nn life at' kvs gv ∧ KD kvs f ∧ (∀ k, ((f k).join).isSome = true → k ∈ ks) ∧ ks.length ≤ 1000 ∧ ∀ t js H', H t = none → Ex H H' → KeysOf (fun k => (f k).join) js → SvAt K H' t at' (rowsOf (fun k => (f k).join) js) (spansF (sureL f)) → Q (.ref t) H'
def spLen (K : PySem.W.Frag) (C : Addr) : Sp := fun vs H Q _ => ∃ (p d g pp nn : Addr) (life at' : Int) (kvs : List (Key × V)) (gv : List V) (f : Kn) (ks : List Int), vs = [.ref p] ∧ TkAt C H p d g pp nn life at' kvs gv ∧ KD kvs f ∧ (∀ k, ((f k).join).isSome = true → k ∈ ks) ∧ ks.length ≤ 1000 ∧ ∀ js H', Ex H H' → KeysOf (fun k => (f k).join) js → js.length ≤ 1000 → Q (.int (js.length : Int)) H'
end
section
variable {P : Program} {w : World} {K : PySem.W.Frag} {mg : Str → Option Value} {base : Heap}
abbrev mSaved : Stmt := inClass sTaker 18
theorem scSaved : FnScope ["self"] ["self"] (defScope mSaved) := ⟨rfl, rfl, rfl, by decide +kernel, rfl, by decide +kernel, by decide +kernel⟩
theorem ok_saved {f C fR fS : Addr} {fd fdR fdS : FuncData} {kR kS k : Nat} (F : Fun K "saved" "Taker.saved" mSaved f fd) (T : Txt K mg C) (FR : FnOk P w K mg base CX0 kR fR fdR ["self"] (spRows K C)) (bR : Binds K fdR ["self"] []) (mR : Meth K C "rows" fR) (hR : kR ≤ k) (FS : FnOk P w K mg base CX0 kS fS fdS ["self"] (spSureM K C)) (bS : Binds K fdS ["self"] []) (mS : Meth K C "sure" fS) (hS : kS ≤ k) : FnOk P w K mg base CX0 (k + 1) f fd ["self"] (spSaved K C) := by
  refine F.ok scSaved (fun vs H Q E h => ?_) (fun cdv A outer s H vs Q E hr h => ?_)
  · obtain ⟨p, d, g, pp, nn, life, at', kvs, gv, f, ks, rfl, _⟩ := h
    rfl
  · obtain ⟨p, d, g, pp, nn, life, at', kvs, gv, f, ks, rfl, S, kd, hk, h64, q⟩ := h
    refine ⟨_, (pss_one (ps_ret (pe_tup (pa_cons (pe_fld (pv 0) rfl) (pa_cons (pe_meth0 (pv 0) T.cl mR FR (hr.mono hR) bR .nil pass0) (pa_cons (pe_meth0 (pv 0) T.cl mS FS (hr.mono hS) bS .nil pass0) pa_nil)))))), ?_⟩
    obtain ⟨dx, hp⟩ := S.ob
    refine ⟨_, rfl, p, C, dx, _, _, rfl, hp, T.cl, T.aA, fl_at _ _ _ _ _ _, _, rfl, p, dx, _, rfl, hp, no_rows _ _ _ _ _ _, p, d, g, pp, nn, life, at', kvs, gv, f, ks, rfl, S, kd, hk, h64, fun t1 js H1 _ x1 kf hj tp1 => ?_⟩
    have S1 := S.ex x1
    obtain ⟨dx1, hp1⟩ := S1.ob
    refine ⟨_, rfl, p, dx1, _, rfl, hp1, no_sure _ _ _ _ _ _, p, d, g, pp, nn, life, at', kvs, gv, f, rfl, S1, kd, fun t2 H2 _ x2 tp2 => ⟨sz_of (by simp), fun t ht => ?_⟩⟩
    exact q t js _ (fresh_back (x1.trans x2) ht) ((x1.trans x2).trans (Ex.new ht)) kf ⟨t1, t2, st_of upd_same, tp1.same (x2.trans (Ex.new ht)), tp2.same (Ex.new ht)⟩
abbrev mLen : Stmt := inClass sTaker 21
theorem scLen : FnScope ["self"] ["self"] (defScope mLen) := ⟨rfl, rfl, rfl, by decide +kernel, rfl, by decide +kernel, by decide +kernel⟩
theorem ok_len {f C fR : Addr} {fd fdR : FuncData} {kR k : Nat} (F : Fun K "__len__" "Taker.__len__" mLen f fd) (T : Txt K mg C) (N : Names mg) (FR : FnOk P w K mg base CX0 kR fR fdR ["self"] (spRows K C)) (bR : Binds K fdR ["self"] []) (mR : Meth K C "rows" fR) (hR : kR ≤ k) : FnOk P w K mg base CX0 (k + 1) f fd ["self"] (spLen K C) := by
  refine F.ok scLen (fun vs H Q E h => ?_) (fun cdv A outer s H vs Q E hr h => ?_)
  · obtain ⟨p, d, g, pp, nn, life, at', kvs, gv, f, ks, rfl, _⟩ := h
    rfl
  · obtain ⟨p, d, g, pp, nn, life, at', kvs, gv, f, ks, rfl, S, kd, hk, h64, q⟩ := h
    refine ⟨_, (pss_one (ps_ret (pe_callB call_len_seq (by rfl) N.len PySem.boot_len (pa_cons (pe_meth0 (pv 0) T.cl mR FR (hr.mono hR) bR .nil pass0) pa_nil)))), ?_⟩
    obtain ⟨dx, hp⟩ := S.ob
    refine ⟨_, rfl, p, dx, _, rfl, hp, no_rows _ _ _ _ _ _, p, d, g, pp, nn, life, at', kvs, gv, f, ks, rfl, S, kd, hk, h64, fun t1 js H1 _ x1 kf hj tp1 => ?_⟩
    obtain ⟨xs, pt, dx'⟩ := tp1
    have el : xs.length = js.length := by
      rw [dps_len dx', List.length_map]
      unfold rowsOf
      rw [List.length_map]
    refine ⟨t1, xs, rfl, .inr pt.st, ?_⟩
    rw [el]
    exact q js H1 x1 kf (by have := keys_few kf hj; omega)
end
theorem w_life {K : PySem.W.Frag} {C Cp : Addr} {H : Hp} {p : Addr} {m : TM} {X : Addr → Prop} {Q : VK} {E : XK} (S : TkM K C Cp H p m X) (q : ∀ H', Ex H H' → Q (.int m.life) H') : spOne C (fun l _ => .int l) [.ref p] H Q E := by
  obtain ⟨d, g, pp, nn, kvs, gv, l, B, fx⟩ := S
  exact ⟨p, d, g, pp, nn, m.life, m.at', kvs, gv, rfl, B.at', q⟩
theorem w_place {K : PySem.W.Frag} {C Cp : Addr} {H : Hp} {p : Addr} {m : TM} {X : Addr → Prop} {Q : VK} {E : XK} (S : TkM K C Cp H p m X) (q : ∀ H', Ex H H' → Q (.int m.at') H') : spOne C (fun _ a => .int a) [.ref p] H Q E := by
  obtain ⟨d, g, pp, nn, kvs, gv, l, B, fx⟩ := S
  exact ⟨p, d, g, pp, nn, m.life, m.at', kvs, gv, rfl, B.at', q⟩
theorem kn_in {kvs : List (Key × V)} {f : Kn} (h : KD kvs f) (k : Int) (z : ((f k).join).isSome = true) : k ∈ allKs := by
  cases e : f k with
  | none => rw [e] at z; cases z
  | some o =>
    have hv : (valV kvs (.inl k)).isSome = true := by
      rw [h.val, e]
      rfl
    have hm := (valV_memI (kvs := kvs) (k := .inl k)).mpr hv
    obtain ⟨r, mr, er⟩ := List.mem_map.mp hm
    obtain ⟨j, hj, ej⟩ := h.inn r mr
    rw [er] at ej
    cases ej
    exact allKs_mem hj.1 hj.2
theorem w_rows {K : PySem.W.Frag} {C Cp : Addr} {H : Hp} {p : Addr} {m : TM} {X : Addr → Prop} {Q : VK} {E : XK} (S : TkM K C Cp H p m X) (q : ∀ t js H', H t = none → Ex H H' → KeysOf (fun k => (m.f k).join) js → TP K H' t (rowsOf (fun k => (m.f k).join) js) → Q (.ref t) H') : spRows K C [.ref p] H Q E := by
  obtain ⟨d, g, pp, nn, kvs, gv, l, B, fx⟩ := S
  exact ⟨p, d, g, pp, nn, m.life, m.at', kvs, gv, m.f, allKs, rfl, B.at', B.kd, kn_in B.kd, by rw [allKs_len]; exact Nat.le_refl _, fun t js H' nt x kf _ tp => q t js H' nt x kf tp⟩
theorem w_sure {K : PySem.W.Frag} {C Cp : Addr} {H : Hp} {p : Addr} {m : TM} {X : Addr → Prop} {Q : VK} {E : XK} (S : TkM K C Cp H p m X) (q : ∀ t H', H t = none → Ex H H' → TP K H' t (spansF (sureL m.f)) → Q (.ref t) H') : spSureM K C [.ref p] H Q E := by
  obtain ⟨d, g, pp, nn, kvs, gv, l, B, fx⟩ := S
  exact ⟨p, d, g, pp, nn, m.life, m.at', kvs, gv, m.f, rfl, B.at', B.kd, q⟩
theorem w_saved {K : PySem.W.Frag} {C Cp : Addr} {H : Hp} {p : Addr} {m : TM} {X : Addr → Prop} {Q : VK} {E : XK} (S : TkM K C Cp H p m X) (q : ∀ t js H', H t = none → Ex H H' → KeysOf (fun k => (m.f k).join) js → SvAt K H' t m.at' (rowsOf (fun k => (m.f k).join) js) (spansF (sureL m.f)) → Q (.ref t) H') : spSaved K C [.ref p] H Q E := by
  obtain ⟨d, g, pp, nn, kvs, gv, l, B, fx⟩ := S
  exact ⟨p, d, g, pp, nn, m.life, m.at', kvs, gv, m.f, allKs, rfl, B.at', B.kd, kn_in B.kd, by rw [allKs_len]; exact Nat.le_refl _, q⟩
theorem w_len {K : PySem.W.Frag} {C Cp : Addr} {H : Hp} {p : Addr} {m : TM} {X : Addr → Prop} {Q : VK} {E : XK} (S : TkM K C Cp H p m X) (q : ∀ js H', Ex H H' → KeysOf (fun k => (m.f k).join) js → Q (.int (js.length : Int)) H') : spLen K C [.ref p] H Q E := by
  obtain ⟨d, g, pp, nn, kvs, gv, l, B, fx⟩ := S
  exact ⟨p, d, g, pp, nn, m.life, m.at', kvs, gv, m.f, allKs, rfl, B.at', B.kd, kn_in B.kd, by rw [allKs_len]; exact Nat.le_refl _, fun js H' x kf _ => q js H' x kf⟩
theorem w_events {K : PySem.W.Frag} {C Cp : Addr} {H : Hp} {p : Addr} {m : TM} {X : Addr → Prop} {Q : VK} {E : XK} (S : TkM K C Cp H p m X) (q : ∀ t us H', H t = none → Ex H H' → H' t = some (.lst us) → DpAll K H' us m.ev → Q (.ref t) H') : spEvents K C [.ref p] H Q E := by
  obtain ⟨d, g, pp, nn, kvs, gv, l, B, fx⟩ := S
  exact ⟨p, d, g, pp, nn, m.life, m.at', kvs, gv, rfl, B.at', fun t H' nt x h => q t gv H' nt x h (dps_same x _ _ B.ev)⟩
end K27
namespace K27
open PySem L2 PyProof.Rows Tc Evl
abbrev sLEn : Stmt := topS 56
theorem scLEn : FnScope ["bag", "keys"] ["bag", "keys"] (defScope sLEn) := ⟨rfl, rfl, rfl, by decide +kernel, rfl, by decide +kernel, by decide +kernel⟩
/-- an entry that was drawn -/
def entOk (ks : List Int) (d : PyData) : Prop := (∃ cs, d = .tuple [.str "group", .tuple cs] ∧ (∀ c ∈ cs, goodCh ks c = true) ∧ cs.length ≤ 6) ∨ ∃ (s : Str) (i n : Int), d = .tuple [.str s, .int i, .int n] ∧ (s = "low" ∨ s = "high") ∧ 1 ≤ i ∧ i ≤ 4 ∧ 0 ≤ n ∧ n ≤ 8
def spEntM (K : PySem.W.Frag) : Sp := fun vs H Q _ => ∃ (b l : Addr) (ks : List Int) (S : Addr → Prop), vs = [.ref b, .ref l] ∧ Bag H b ∧ Sok S b H ∧ KeysAt b H l ks ∧ ∀ v d H', Tc.Fr b H H' → Dp K (cut S H') v d → entOk ks d → Q v H'
theorem good_all {c : PyData} {ks : List Int} (hk : ∀ k ∈ ks, 0 ≤ k ∧ k < 1000) (h : goodCh ks c = true) : goodCh allKs c = true := by
  rcases ch_kindW h with ⟨k, rfl, m⟩ | ⟨k, z, rfl, m, w⟩
  · have := hk k m
    show (decide (("drop" : Str) = "drop") && decide (k ∈ allKs)) = true
    rw [decide_eq_true rfl, decide_eq_true (allKs_mem this.1 this.2)]
    rfl
  · have := hk k m
    have g := h
    unfold goodCh at g ⊢
    simp only [Bool.and_eq_true, decide_eq_true_eq] at g ⊢
    have a := allKs_mem this.1 this.2
    simp_all
theorem ent_good {ks : List Int} {d : PyData} (hk : ∀ k ∈ ks, 0 ≤ k ∧ k < 1000) (h : entOk ks d) : tsOk (.take d) := by
  rcases h with ⟨cs, rfl, hc, hl⟩ | ⟨s, i, n, rfl, hs, h1, h2, h3, h4⟩
  · refine ⟨gq_group fun c m => good_all hk (hc c m), Nat.le_trans hl (by decide), ?_⟩
    show (0 : Int).natAbs.log2 < 1920
    decide
  · refine ⟨gq_mark hs, Nat.zero_le _, ?_⟩
    show n.natAbs.log2 < 1920
    have : n.natAbs < 2 ^ 20 := by omega
    by_cases z : n.natAbs = 0
    · rw [z]
      decide
    · exact Nat.lt_of_lt_of_le ((Nat.log2_lt z).mpr this) (by decide)
section
variable {P : Program} {w : World} {K : PySem.W.Frag} {mg : Str → Option Value} {base : Heap}
theorem ok_entM {f : Addr} {fd : FuncData} {kT kO kC k : Nat} (F : Fun K "_law_entry" "_law_entry" sLEn f fd) (N : Names mg) (dT : Own P w K mg base "_law_take" ["bag", "many"] kT spTake) (hT : kT ≤ k) (dC : Own P w K mg base "_law_changes" ["bag", "keys", "most"] kC (spChsL K)) (hC : kC ≤ k) : FnOk P w K mg base CX0 (k + 1) f fd ["bag", "keys"] (spEntM K) := by
  refine F.ok scLEn (fun vs H Q E h => ?_) (fun cdv A outer s H vs Q E hr h => ?_)
  · obtain ⟨b, l, ks, S, rfl, _⟩ := h
    rfl
  · obtain ⟨b, l, ks, S, rfl, hB, hS, hk, q⟩ := h
    refine ⟨_, (pss_cons (ps_if (pt_cmpR op_eq (pe_own dT hr hT (by rfl) (pa_cons (pv 0) (pa_cons pe_int pa_nil))) pe_int (nomark _)) (pss_one (ps_ret (pe_tup (pa_cons (pe_ix ix_list (pe_lst (pa_cons pe_str (pa_cons pe_str pa_nil))) (pe_own dT hr hT (by rfl) (pa_cons (pv 0) (pa_cons pe_int pa_nil))) (fun _ _ => rfl)) (pa_cons (pe_op op_add pe_int (pe_own dT hr hT (by rfl) (pa_cons (pv 0) (pa_cons pe_int pa_nil)))) (pa_cons (pe_own dT hr hT (by rfl) (pa_cons (pv 0) (pa_cons pe_int pa_nil))) pa_nil)))))) pss_nil)
      (pss_one (ps_ret (pe_tup (pa_cons pe_str (pa_cons (pe_own dC hr hC (by rfl) (pa_cons (pv 0) (pa_cons (pv 1) (pa_cons pe_int pa_nil)))) pa_nil)))))), ?_⟩
    refine s_seq (take_of (b := b) (m := 4) hB (ea_cons (ev_var rfl) (ea_cons ev_c ea_nil)) (by decide) (by decide) fun r H1 f1 r0 r1 => ⟨rfl, _, rfl, ite2 (fun e => ?_) (fun e => s_next ?_)⟩)
    · refine item_new (K := K) (b := b) (xs := [.str "low", .str "high"]) (el_lst (ea_cons ev_c (ea_cons ev_c ea_nil)) (by simp)) f1.bag (fun H2 f2 Q q => take_of (m := 2) f2.bag (ea_cons (ev_var rfl) (ea_cons ev_c ea_nil)) (by decide) (by decide) q) fun v H2 f2 hv => ?_
      obtain ⟨s, rfl, hs⟩ : ∃ s : Str, v = .str s ∧ (s = "low" ∨ s = "high") := by
        simp only [List.mem_cons, List.not_mem_nil, or_false] at hv
        rcases hv with h | h
        · exact ⟨_, h, .inl rfl⟩
        · exact ⟨_, h, .inr rfl⟩
      refine take_of (b := b) (m := 4) f2.bag (ea_cons (ev_var rfl) (ea_cons ev_c ea_nil)) (by decide) (by decide) fun a1 H3 f3 a2 a3 => ⟨1, a1, rfl, rfl, take_of (b := b) (m := 9) f3.bag (ea_cons (ev_var rfl) (ea_cons ev_c ea_nil)) (by decide) (by decide) fun a4 H4 f4 a5 a6 => ⟨sz_of (by simp), fun p hp => ?_⟩⟩
      have fA := (f1.trans f2).trans (f3.trans f4)
      exact q (.ref p) _ _ (fA.trans (Fr.new fA.bag hp)) (dp_leaves (hS.fr fA) hp fun H2 => .cons (.str s) (.cons (.int (1 + a1)) (.cons (.int a4) .nil))) (.inr ⟨s, 1 + a1, a4, rfl, hs, by omega, by omega, by omega, by omega⟩)
    · refine ⟨.ref b, rfl, .ref l, rfl, b, l, ks, 3, S, rfl, f1.bag, hS.fr f1, hk.fr f1, by decide, by decide, fun v ds H2 f2 hd hg h6 => ⟨sz_of (by simp), fun p hp => ?_⟩⟩
      have fA := f1.trans f2
      exact q (.ref p) _ _ (fA.trans (Fr.new fA.bag hp)) (cdt_new (hS.fr fA) fA.bag hp (.cons (.str "group") (.cons hd .nil))) (.inl ⟨ds, rfl, hg, h6⟩)
end
end K27
namespace K27
open PySem L2 PyProof.Rows Tc Evl
/-- changes done in a dict -/
def spDone (K : PySem.W.Frag) : Sp := fun vs H Q _ => ∃ (D q : Addr) (ks : List Int) (kvs : List (Key × V)) (f : Int → Option Int) (us : List V) (cs : List PyData), vs = [.ref D, .ref q] ∧ H D = some (.dK kvs) ∧ DI ks kvs f ∧ ks.length ≤ 1000 ∧ SqT K H q us ∧ DpAll K H us cs ∧ (∀ c ∈ cs, goodCh ks c = true) ∧
  ∀ kvs' H', Bar D H H' → H' D = some (.dK kvs') → DI ks kvs' (appl f (cs.map chD)) → Q .non H'
/-- the rows of a dict, by keys -/
def spPairs (K : PySem.W.Frag) : Sp := fun vs H Q _ => ∃ (D : Addr) (ks : List Int) (kvs : List (Key × V)) (f : Int → Option Int), vs = [.ref D] ∧ H D = some (.dK kvs) ∧ DI ks kvs f ∧ ks.length ≤ 1000 ∧
  ∀ p js H', H p = none → Ex H H' → KeysOf f js → (∀ j ∈ js, j ∈ ks) → TP K H' p (rowsOf f js) → Q (.ref p) H'
theorem to_hid {D : Addr} {H H' : Hp} (x : Ex H H') (hD : H D = none) : Same H (hid D H') := fun a o h => hid_at (x a o h) fun z => by
  rw [z, hD] at h
  cases h
theorem cut_none (us : List V) (n : Nat) (h : n ≤ us.length) : cutV us none (some (n : Int)) = us.take n := by
  have e : HT.sIx us.length us.length (some (n : Int)) = n := by
    unfold HT.sIx
    show (if (n : Int) < 0 then _ else min (n : Int).toNat us.length) = n
    rw [if_neg (by omega)]
    omega
  have e0 : HT.sIx us.length 0 none = 0 := rfl
  unfold cutV
  rw [e, e0, List.drop_zero, Nat.sub_zero]
theorem dict_di {K : PySem.W.Frag} {H : Hp} {p : Addr} {rs : List (Int × Int)} {ks : List Int} {Q : VK} (h : TP K H p rs) (hk : ∀ r ∈ rs, r.1 ∈ ks) (q : ∀ D kvs, H D = none → DI ks kvs (fRows rs) → Q (.ref D) (upd H D (.dK kvs))) : rDictT K [.ref p] H Q := by
  obtain ⟨xs, hp, hA⟩ := h
  obtain ⟨ps, rfl, hP⟩ := pairs_dp hA
  exact ⟨p, ps, _, rfl, hp, hP, fun D hD => q D _ hD (merge_rows rs [] (fun _ => none) hk DI.nil)⟩
section
variable {P : Program} {w : World} {K : PySem.W.Frag} {mg : Str → Option Value} {base : Heap}
abbrev sDone : Stmt := topS 59
theorem scDone : FnScope ["rows", "changes", "change"] ["rows", "changes"] (defScope sDone) := ⟨rfl, rfl, rfl, by decide +kernel, rfl, by decide +kernel, by decide +kernel⟩
theorem ok_done {f : Addr} {fd : FuncData} {k : Nat} (F : Fun K "_law_done" "_law_done" sDone f fd) : FnOk P w K mg base CX0 (k + 1) f fd ["rows", "changes"] (spDone K) := by
  refine F.ok scDone (fun vs H Q E h => ?_) (fun cdv A outer s H vs Q E hr h => ?_)
  · obtain ⟨D, q, ks, kvs, f, us, cs, rfl, _⟩ := h
    rfl
  · obtain ⟨D, qa, ks, kvs, f, us, cs, rfl, hD, di, h64, hq, hA, hg, q⟩ := h
    refine ⟨_, pss_one (ps_for PassesOwn.never rfl (pi_tup (pv 1)) (pg_name (i := 2) scDone.nd rfl (.inl rfl)) (pss_one (ps_if (pt_cmpR op_eq (pe_ix ix_tup (pv 2) pe_int (fun _ _ => rfl)) pe_str (nomark _)) (pss_one (ps_dput (hu_of hr) (pv 0) (pe_ix ix_tup (pv 2) pe_int (fun _ _ => rfl)) (pe_ix ix_tup (pv 2) pe_int (fun _ _ => rfl)) rfl)) (pss_one (ps_expr (pe_dpop2 (pv 0) (pe_ix ix_tup (pv 2) pe_int (fun _ _ => rfl)) pe_non ⟨rfl, rfl, rfl, rfl⟩)))))), ?_⟩
    refine ⟨.ref qa, rfl, qa, rfl, ⟨us, hq⟩, ?_⟩
    refine for_tup (K := K) (a := qa) (xs := us) (fun j σ2 H2 => ∃ y2 kvs2, σ2 = [some (.ref D), some (.ref qa), y2] ∧ Bar D H H2 ∧ H2 D = some (.dK kvs2) ∧ DI ks kvs2 (appl f ((cs.map chD).take j))) ⟨none, kvs, rfl, Bar.refl D H, hD, di⟩ ?_ ?_ ?_
    · rintro j σ2 H2 _ ⟨_, _, _, b2, _⟩
      exact bar_t hD b2 hq
    · rintro j y σ2 H2 hy ⟨y2, kvs2, rfl, b2, hD2, di2⟩
      obtain ⟨c, hc, hyc⟩ := dps_at (dps_bar hD b2 _ _ hA) hy
      have hj : (cs.map chD).take (j + 1) = (cs.map chD).take j ++ [chD c] := by
        rw [List.take_succ, List.getElem?_map, hc]
        rfl
      rw [hj, appl_app]
      have hz : kvs2.length < sizeLine := sz_lt (by have := di2.len; omega)
      rcases ch_kind (hg c (List.mem_of_getElem? hc)) with ⟨kk, rfl, mk⟩ | ⟨kk, zz, rfl, mk⟩
      · obtain ⟨pa, u0, u1, rfl, ht, h0, h1⟩ := dpt2 hyc
        cases h0
        cases h1
        refine g_name (s_if (b := false) (et_is (et_test (ev_op (ev_ix0 (ev_var rfl) ht) ev_c (rv_eq rfl))) (by decide)) (fun e => by cases e) fun _ H4 x4 => ?_)
        have hD4 := x4 D _ hD2
        refine ⟨.ref D, rfl, D, rfl, .inl ⟨kvs2, .inl hD4⟩, ev_ix1 (ev_var rfl) (Evl.ex_t x4 ht) H4 (Ex.refl H4) _ fun H5 x5 => ⟨kvs2, .inl kk, x5 D _ hD4, rfl, fun v hv => ⟨_, _, rfl, (b2.trans (Bar.ex (x4.trans x5))).put, upd_same, di2.drop⟩, fun hv => ⟨_, _, rfl, b2.trans (Bar.ex (x4.trans x5)), x5 D _ hD4, di2.gone ?_⟩⟩⟩
        rw [di2.val] at hv
        exact Option.map_eq_none_iff.mp hv
      · obtain ⟨pa, u0, u1, u2, rfl, ht, h0, h1, h2⟩ := dpt3 hyc
        cases h0
        cases h1
        cases h2
        refine g_name (s_if (b := true) (et_is (et_test (ev_op (ev_ix0 (ev_var rfl) ht) ev_c (rv_eq rfl))) (by decide)) (fun _ H4 x4 => ?_) fun e => by cases e)
        have hD4 := x4 D _ hD2
        refine ev_ix2 (ev_var rfl) (Evl.ex_t x4 ht) H4 (Ex.refl H4) _ fun H5 x5 => ⟨.ref D, rfl, ev_ix1 (ev_var rfl) (Evl.ex_t (x4.trans x5) ht) H5 (Ex.refl H5) _ fun H6 x6 => ⟨D, _, rfl, DPut.k (k := .inl kk) (x6 D _ (x5 D _ hD4)) hz, ?_⟩⟩
        exact ⟨_, _, rfl, (b2.trans (Bar.ex ((x4.trans x5).trans x6))).put, upd_same, di2.put mk⟩
    · rintro σ2 H2 ⟨y2, kvs2, rfl, b2, hD2, di2⟩
      rw [dps_len hA, ← List.length_map (f := chD), List.take_length] at di2
      exact q kvs2 H2 b2 hD2 di2
abbrev sPairs : Stmt := topS 60
theorem scPairs : FnScope ["rows", "key"] ["rows"] (defScope sPairs) := ⟨rfl, rfl, rfl, by decide +kernel, rfl, by decide +kernel, by decide +kernel⟩
theorem ok_pairs {f : Addr} {fd : FuncData} {k : Nat} (F : Fun K "_law_pairs" "_law_pairs" sPairs f fd) (N : Names mg) : FnOk P w K mg base CX0 (k + 1) f fd ["rows"] (spPairs K) := by
  refine F.ok scPairs (fun vs H Q E h => ?_) (fun cdv A outer s H vs Q E hr h => ?_)
  · obtain ⟨D, ks, kvs, f, rfl, _⟩ := h
    rfl
  · obtain ⟨D, ks, kvs, f, rfl, hD2, di, h64, q⟩ := h
    refine ⟨_, pss_one (ps_ret (pe_callTy cr_tupP (by rfl) N.tuple boot_tuple (pa_cons (pe_lc (own := [("key", 1)]) (g := gName 1) (tt := tYes) (te := tTup (tCons (tVar 1) (tCons (tDGet (tVar 0) (tVar 1)) tNil))) rfl scPairs.nd (pi_list (pe_callB (cr_sortedDA rfl) (by rfl) N.sorted boot_sorted (pa_cons (pv 0) pa_nil))) (blkOk_by (N := ["rows", "key"]) (sc := defScope sPairs) (by decide +kernel)) (fun _ _ _ _ _ => pg_name (i := 1) scPairs.nd rfl (Or.inl rfl)) (fun _ _ _ _ _ => pts_nil) (fun _ _ _ _ _ => (pe_tup (pa_cons (pv 1) (pa_cons (pe_dget (hu_of hr) (pv 0) (pv 1) (fun _ _ => rfl)) pa_nil))))) pa_nil))), ?_⟩
    obtain ⟨js0, hks, nd, mem, hlen⟩ := di.keys
    refine ⟨.ref D, rfl, D, kvs, js0, rfl, .inl hD2, hks, fun ys p pm pw hp => ⟨p, rfl, ⟨_, sq_of upd_same⟩, fun D2 hD3 => ?_⟩⟩
    have ndy : ys.Nodup := pm.nodup_iff.mpr nd
    have kf : KeysOf f ys := ⟨lt_of_le_nodup pw ndy, fun k => (pm.mem_iff).trans (mem k)⟩
    have x3 : Ex H (upd H p (.lst (ys.map V.int))) := Ex.new hp
    generalize hH3 : upd H p (.lst (ys.map V.int)) = H3 at x3 hD3
    have hp3 : H3 p = some (.lst (ys.map V.int)) := by rw [← hH3]; exact upd_same
    refine lc_list (K := K) (a := p) (xs := ys.map V.int) (fun i H' => ∃ vs, Ex H3 H' ∧ H' D2 = some (.lst vs) ∧ vs.length = i ∧ DpAll K (hid D2 H') vs ((rowsOf f (ys.take i)).map Tc.pairD)) ⟨[], Ex.new hD3, upd_same, rfl, .nil⟩ (fun i H' _ h => ?_) (fun i x H' hx h => ⟨rfl, ?_⟩) (fun H' h => ?_)
    · obtain ⟨vs, x4, _⟩ := h
      exact sq_of (x4 p _ hp3)
    · obtain ⟨vs, x4, h4, hvl, hv⟩ := h
      rw [List.getElem?_map] at hx
      obtain ⟨kk, hkk, rfl⟩ := Option.map_eq_some_iff.mp hx
      have hm := (kf.2 kk).mp (List.mem_of_getElem? hkk)
      obtain ⟨ww, hww⟩ := Option.isSome_iff_exists.mp hm
      have hval : valV kvs (.inl kk) = some (.int ww) := by rw [di.val, hww]; rfl
      have hi : i < ys.length := (List.getElem?_eq_some_iff.mp hkk).1
      have hyl : ys.length = js0.length := pm.length_eq
      refine iteT (B := ∃ vs, Ex H3 H' ∧ H' D2 = some (.lst vs) ∧ vs.length = i + 1 ∧ DpAll K (hid D2 H') vs ((rowsOf f (ys.take (i + 1))).map Tc.pairD)) ?_
      refine ⟨.int kk, rfl, .ref D, rfl, .int kk, rfl, D, .int ww, rfl, by rw [← hval]; exact DGet.k (k := .inl kk) (x4 D _ (x3 D _ hD2)), sz_of (by simp), fun t ht => ?_⟩
      have htD : t ≠ D2 := fun z => by
        subst z
        rw [h4] at ht
        cases ht
      have x5 : Ex H' (upd H' t (.tup [.int kk, .int ww])) := Ex.new ht
      refine ⟨vs, x5 D2 _ h4, sz_lt (by omega), vs ++ [.ref t], (x4.trans x5).mut hD3, upd_same, by simp [hvl], ?_⟩
      rw [hid_upd, List.take_succ, hkk]
      unfold rowsOf
      rw [List.map_append, List.map_append]
      refine dps_app (dps_same (ex_hid x5) _ _ hv) (.cons ?_ .nil)
      show Dp K _ (.ref t) (.tuple [.int kk, .int ((f kk).getD 0)])
      rw [hww]
      exact .tup (st_of (hid_at upd_same htD)) (.cons (.int kk) (.cons (.int ww) .nil))
    · obtain ⟨vs, x4, h4, _, hv⟩ := h
      rw [List.length_map, List.take_length] at hv
      refine ⟨D2, vs, rfl, sq_of h4, fun t o ht od => ?_⟩
      have xA : Ex H (upd H' t (.frz o (.tup vs))) := (x3.trans x4).trans (Ex.new ht)
      have tn : H t = none := by
        cases e : H t with
        | none => rfl
        | some u =>
          have := ((x3.trans x4) t u e).symm.trans ht
          cases this
      refine q t ys _ tn xA kf (fun j m => ?_) ⟨vs, ⟨o, upd_same, od⟩, dps_same (Ex.new ht) _ _ (dps_same (hid_same D2 H') _ _ hv)⟩
      have := (kf.2 j).mp m
      rw [← (mem j)] at this
      have h2 : (Sum.inl j : Key) ∈ kvs.map (·.1) := hks ▸ List.mem_map.mpr ⟨j, this, rfl⟩
      obtain ⟨pp, hp1, hp2⟩ := List.mem_map.mp h2
      obtain ⟨kk, hk1, hk2⟩ := di.inn pp hp1
      cases (hp2.symm.trans hk2 : (Sum.inl j : Key) = Sum.inl kk)
      exact hk1
end
/-- a dict whose keys are those of S -/
structure MI (ks : List Int) (kvs : List (Key × V)) (S : Int → Prop) : Prop where
  nd : (kvs.map (·.1)).Nodup
  inn : ∀ p ∈ kvs, ∃ k ∈ ks, p.1 = Sum.inl k
  has : ∀ k, (valV kvs (Sum.inl k)).isSome = true ↔ S k
theorem MI.nil {ks : List Int} : MI ks [] fun _ => False := ⟨List.nodup_nil, fun p m => (by cases m), fun k => ⟨fun h => (by cases h), fun h => False.elim h⟩⟩
theorem MI.put {ks : List Int} {kvs : List (Key × V)} {S : Int → Prop} {k : Int} {v : V} (h : MI ks kvs S) (hk : k ∈ ks) : MI ks (putK kvs (.inl k) v) (fun j => S j ∨ j = k) := by
  refine ⟨?_, fun p m => ?_, fun j => ?_⟩
  · cases e : valV kvs (.inl k) with
    | none => exact nd_putK _ h.nd e
    | some v => rw [putK_old (by rw [e]; rfl)]; exact h.nd
  · rcases mem_putK m with e | ⟨q, m, e⟩
    · exact ⟨k, hk, e⟩
    · obtain ⟨j, hj, e'⟩ := h.inn q m
      exact ⟨j, hj, e ▸ e'⟩
  · rw [valV_put]
    by_cases e : j = k
    · rw [if_pos (by rw [e])]
      exact ⟨fun _ => .inr e, fun _ => rfl⟩
    · rw [if_neg fun z => e (Sum.inl.inj z), h.has]
      exact ⟨.inl, fun z => z.elim id fun y => absurd y e⟩
theorem MI.len {ks : List Int} {kvs : List (Key × V)} {S : Int → Prop} (h : MI ks kvs S) : kvs.length ≤ ks.length := by
  have : (kvs.map (·.1)).length ≤ (ks.map (Sum.inl : Int → Key)).length := len_sub h.nd fun x m => by
    obtain ⟨p, hp, rfl⟩ := List.mem_map.mp m
    obtain ⟨k, hk, e⟩ := h.inn p hp
    exact List.mem_map.mpr ⟨k, hk, e.symm⟩
  rw [List.length_map, List.length_map] at this
  exact this
theorem MI.iff {ks : List Int} {kvs : List (Key × V)} {S S' : Int → Prop} (h : MI ks kvs S) (e : ∀ k, S k ↔ S' k) : MI ks kvs S' := ⟨h.nd, h.inn, fun k => (h.has k).trans (e k)⟩
abbrev allK : List Int := allKs
theorem mem_allK {k : Int} (h : 0 ≤ k ∧ k < 1000) : k ∈ allK := allKs_mem h.1 h.2
/-- the dict that is kept beside a taker -/
def okL (life at' : Int) (rd kn pc ev ot : Addr) : List (Key × V) := [(.inr "life", .int life), (.inr "place", .int at'), (.inr "rows", .ref rd), (.inr "known", .ref kn), (.inr "pieces", .ref pc), (.inr "ever", .ref ev), (.inr "out", .ref ot)]
section
variable (life at' : Int) (rd kn pc ev ot : Addr)
theorem okL_made : mergeK (mergeK [] [(.inr "life", .int life), (.inr "place", .int at'), (.inr "rows", .ref rd), (.inr "known", .ref kn)]) (mergeK [] [(.inr "pieces", .ref pc), (.inr "ever", .ref ev), (.inr "out", .ref ot)]) = okL life at' rd kn pc ev ot := by
  rfl
theorem okL_put (z : Int) : putK (okL life at' rd kn pc ev ot) (.inr "place") (.int z) = okL life z rd kn pc ev ot := by
  rfl
theorem okv_life : valV (okL life at' rd kn pc ev ot) (.inr "life") = some (.int life) := rfl
theorem okv_place : valV (okL life at' rd kn pc ev ot) (.inr "place") = some (.int at') := rfl
theorem okv_rows : valV (okL life at' rd kn pc ev ot) (.inr "rows") = some (.ref rd) := rfl
theorem okv_known : valV (okL life at' rd kn pc ev ot) (.inr "known") = some (.ref kn) := rfl
theorem okv_pieces : valV (okL life at' rd kn pc ev ot) (.inr "pieces") = some (.ref pc) := rfl
theorem okv_out : valV (okL life at' rd kn pc ev ot) (.inr "out") = some (.ref ot) := rfl
theorem okv_ever : valV (okL life at' rd kn pc ev ot) (.inr "ever") = some (.ref ev) := rfl
end
def inSp (sp : List (Int × Int)) (k : Int) : Prop := ∃ r ∈ sp, r.1 ≤ k ∧ k < r.2
/-- what is known behind what was saved -/
theorem learnS_is (rws : List (Int × Int)) : ∀ (sp : List (Int × Int)) (f : Kn), (∀ k, f k = none ∨ f k = some (fRows rws k)) → ∀ k, (inSp sp k ∨ f k ≠ none → learnS f sp rws k = some (fRows rws k)) ∧ (¬ inSp sp k → f k = none → learnS f sp rws k = none)
  | [], f, hf, k => ⟨fun z => by
      show f k = _
      rcases z with ⟨r, m, _⟩ | z
      · cases m
      · exact (hf k).resolve_left z, fun _ z => z⟩
  | r :: sp, f, hf, k => by
    have hf' : ∀ j, learnP f r.1 r.2 rws j = none ∨ learnP f r.1 r.2 rws j = some (fRows rws j) := fun j => by
      unfold learnP
      split
      · exact .inr rfl
      · exact hf j
    obtain ⟨g1, g2⟩ := learnS_is rws sp _ hf' k
    refine ⟨fun z => g1 ?_, fun z1 z2 => g2 (fun ⟨s, m, e⟩ => z1 ⟨s, List.mem_cons_of_mem _ m, e⟩) ?_⟩
    · rcases z with ⟨s, m, e⟩ | z
      · rcases List.mem_cons.mp m with m | m
        · subst m
          refine .inr ?_
          unfold learnP
          by_cases c : f k = none
          · rw [if_pos ⟨e.1, e.2, c⟩]
            exact fun y => by cases y
          · rw [if_neg fun y => c y.2.2]
            exact c
        · exact .inl ⟨s, m, e⟩
      · refine .inr ?_
        unfold learnP
        rw [if_neg fun y => z y.2.2]
        exact z
    · unfold learnP
      rw [if_neg fun y => z1 ⟨r, List.mem_cons_self, y.1, y.2.1⟩]
      exact z2
theorem begun_rows {rws sp : List (Int × Int)} (h : ∀ r ∈ rws, inSp sp r.1) : fRows rws = fun k => (learnS (fun _ => none) sp rws k).join := by
  funext k
  obtain ⟨h1, h2⟩ := learnS_is rws sp (fun _ => none) (fun _ => .inl rfl) k
  by_cases c : inSp sp k
  · rw [h1 (.inl c)]
    rfl
  · rw [h2 c rfl]
    cases e : fRows rws k with
    | none => rfl
    | some z =>
      obtain ⟨r, m, er⟩ := fRows_in (rws := rws) (k := k) (by rw [e]; rfl)
      exact absurd (er ▸ h r m) c
theorem begun_sure {rws sp : List (Int × Int)} (k : Int) : inSp sp k ↔ (learnS (fun _ => none) sp rws k).isSome = true := by
  obtain ⟨h1, h2⟩ := learnS_is rws sp (fun _ => none) (fun _ => .inl rfl) k
  by_cases c : inSp sp k
  · rw [h1 (.inl c)]
    exact ⟨fun _ => rfl, fun _ => c⟩
  · rw [h2 c rfl]
    exact ⟨fun z => absurd z c, fun z => by cases z⟩
theorem inSp_snoc {sp : List (Int × Int)} {r : Int × Int} {k : Int} : inSp (sp ++ [r]) k ↔ inSp sp k ∨ (r.1 ≤ k ∧ k < r.2) := by
  constructor
  · rintro ⟨s, m, e⟩
    rcases List.mem_append.mp m with m | m
    · exact .inl ⟨s, m, e⟩
    · rw [List.mem_singleton.mp m] at e
      exact .inr e
  · rintro (⟨s, m, e⟩ | e)
    · exact ⟨s, List.mem_append_left _ m, e⟩
    · exact ⟨r, List.mem_append_right _ (List.mem_singleton_self _), e⟩
structure OwAt (H : Hp) (o rd kn pc ev ot : Addr) (pkv : List (Key × V)) (nv : List V) (life at' : Int) (rkv kkv : List (Key × V)) (ov : List V) : Prop where
  ob : H o = some (.dK (okL life at' rd kn pc ev ot))
  hr : H rd = some (.dK rkv)
  hk : H kn = some (.dK kkv)
  hp : H pc = some (.dK pkv)
  he : H ev = some (.lst nv)
  ho : H ot = some (.lst ov)
  n1 : o ≠ rd
  n2 : o ≠ kn
  n3 : o ≠ pc
  n4 : rd ≠ kn
  n5 : rd ≠ pc
  n6 : kn ≠ pc
  nn : [o, rd, kn, pc, ev, ot].Nodup
/-- a piece, as it is kept beside -/
def camD : Option (List (Int × Int)) → PyData
  | none => .none
  | some rs => rowsD rs
def opD (x : Pce) : PyData := .tuple [.tuple [.int x.lo, .int x.hi], .bool x.uw, camD x.came]
def opV (l : List (Pce × V)) : List (Key × V) := l.map fun t => (.inl t.1.num, t.2)
theorem nl_op (x : Pce) : nl 3 (opD x) = true := by
  unfold opD
  cases h : x.came with
  | none => rfl
  | some rs =>
    show (true && (true && (nl 2 (rowsD rs) && true))) = true
    rw [nl_rows]
    rfl
structure OwB (K : PySem.W.Frag) (H : Hp) (o rd kn pc ev ot : Addr) (rkv kkv : List (Key × V)) (l : List (Pce × V)) (ov : List V) (m : TM) : Prop where
  at' : OwAt H o rd kn pc ev ot (opV l) (m.nums.map V.int) m.life m.at' rkv kkv ov
  di : DI allK rkv (fun k => (m.f k).join)
  mi : MI allK kkv (fun k => (m.f k).isSome = true)
  pl : l.map (·.1) = m.pcs
  pc : ∀ t ∈ l, Dp K H t.2 (opD t.1)
  pd : (m.pcs.map (·.num)).Nodup
  po : ∀ x ∈ m.pcs, PcOk x
  dv : DpAll K H ov m.ev
  eg : ∀ e ∈ m.ev, nl 1 e = true
  pn : ∀ x ∈ m.pcs, x.num ∈ m.nums
/-- what is kept beside at o, that holds just X -/
def OwM (K : PySem.W.Frag) (H : Hp) (o : Addr) (m : TM) (X : Addr → Prop) : Prop := ∃ rd kn pc ev ot rkv kkv l ov, OwB K H o rd kn pc ev ot rkv kkv l ov m ∧ ∀ a, X a ↔ a ∈ [o, rd, kn, pc, ev, ot]
section
variable {K : PySem.W.Frag} {H H' : Hp} {o rd kn pc ev ot : Addr} {pkv rkv kkv : List (Key × V)} {nv : List V} {life at' : Int} {l : List (Pce × V)} {ov : List V} {m : TM} {X : Addr → Prop}
theorem OwAt.noT (S : OwAt H o rd kn pc ev ot pkv nv life at' rkv kkv ov) : ∀ a ∈ [o, rd, kn, pc, ev, ot], NoT H a := fun a ha => by
  simp only [List.mem_cons, List.not_mem_nil, or_false] at ha
  rcases ha with rfl | rfl | rfl | rfl | rfl | rfl
  · exact ⟨_, S.ob, (fun xs z => by cases z), fun o xs z => by cases z⟩
  · exact ⟨_, S.hr, (fun xs z => by cases z), fun o xs z => by cases z⟩
  · exact ⟨_, S.hk, (fun xs z => by cases z), fun o xs z => by cases z⟩
  · exact ⟨_, S.hp, (fun xs z => by cases z), fun o xs z => by cases z⟩
  · exact ⟨_, S.he, (fun xs z => by cases z), fun o xs z => by cases z⟩
  · exact ⟨_, S.ho, (fun xs z => by cases z), fun o xs z => by cases z⟩
theorem OwM.noT (S : OwM K H o m X) : ∀ a, X a → NoT H a := fun a h => by
  obtain ⟨rd, kn, pc, ev, ot, rkv, kkv, l, ov, B, fx⟩ := S
  exact B.at'.noT a ((fx a).mp h)
theorem OwAt.keep (S : OwAt H o rd kn pc ev ot pkv nv life at' rkv kkv ov) (e : ∀ a u, a ∈ [o, rd, kn, pc, ev, ot] → H a = some u → H' a = some u) : OwAt H' o rd kn pc ev ot pkv nv life at' rkv kkv ov :=
  ⟨e _ _ (by simp) S.ob, e _ _ (by simp) S.hr, e _ _ (by simp) S.hk, e _ _ (by simp) S.hp, e _ _ (by simp) S.he, e _ _ (by simp) S.ho, S.n1, S.n2, S.n3, S.n4, S.n5, S.n6, S.nn⟩
theorem OwB.keep (S : OwB K H o rd kn pc ev ot rkv kkv l ov m) (e : ∀ a u, a ∈ [o, rd, kn, pc, ev, ot] → H a = some u → H' a = some u) (kt : Kt H H') : OwB K H' o rd kn pc ev ot rkv kkv l ov m :=
  ⟨S.at'.keep e, S.di, S.mi, S.pl, fun t mt => kt.dp 3 _ _ (nl_op _) (S.pc t mt), S.pd, S.po, kt.dps S.eg S.dv, S.eg, S.pn⟩
theorem OwM.keep (S : OwM K H o m X) (e : ∀ a u, X a → H a = some u → H' a = some u) (kt : Kt H H') : OwM K H' o m X := by
  obtain ⟨rd, kn, pc, ev, ot, rkv, kkv, l, ov, B, fx⟩ := S
  exact ⟨rd, kn, pc, ev, ot, rkv, kkv, l, ov, B.keep (fun a u h => e a u ((fx a).mpr h)) kt, fx⟩
theorem OwM.ex (S : OwM K H o m X) (x : Ex H H') : OwM K H' o m X := S.keep (fun a u _ h => x a u h) (Kt.ex x)
theorem OwM.fr {b : Addr} (S : OwM K H o m X) (hB : Bag H b) (f : Tc.Fr b H H') (n : ¬ X b) : OwM K H' o m X := S.keep (fun a u h z => f.at z fun y => n (y ▸ h)) (Kt.fr hB f)
theorem OwB.ex (S : OwB K H o rd kn pc ev ot rkv kkv l ov m) (x : Ex H H') : OwB K H' o rd kn pc ev ot rkv kkv l ov m := S.keep (fun a u _ h => x a u h) (Kt.ex x)
end
/-- what stands behind a call: own is m' now, all else stays -/
def OOut (K : PySem.W.Frag) (H : Hp) (o : Addr) (X : Addr → Prop) (m' : TM) (H' : Hp) : Prop := OwM K H' o m' X ∧ Off X H H'
section
variable {K : PySem.W.Frag} {H H1 H' : Hp} {o : Addr} {m : TM} {X : Addr → Prop}
theorem OOut.refl (S : OwM K H o m X) : OOut K H o X m H := ⟨S, fun _ _ _ h => h⟩
theorem OOut.pre (x : Ex H H1) (h : OOut K H1 o X m H') : OOut K H o X m H' := ⟨h.1, (Off.ex x).trans h.2⟩
theorem OOut.post (h : OOut K H o X m H1) (x : Ex H1 H') : OOut K H o X m H' := ⟨h.1.ex x, h.2.trans (Off.ex x)⟩
end
def spTn (K : PySem.W.Frag) : Sp := fun vs H Q _ => ∃ (sv : Addr) (life at2 : Int) (rws sp : List (Int × Int)), vs = [.int life, .ref sv] ∧ SvAt K H sv at2 rws sp ∧ (∀ r ∈ rws, r.1 ∈ allK ∧ inSp sp r.1) ∧ spansIn sp ∧
  ∀ o X H', Ex H H' → (∀ a, X a → H a = none) → X o → OwM K H' o ⟨life, at2, learnS (fun _ => none) sp rws, [], [], []⟩ X → Q (.ref o) H'
abbrev sTn : Stmt := topS 64
theorem scTn : FnScope ["life", "sav1", "known", "first", "last", "key", "found"] ["life", "sav1"] (defScope sTn) := ⟨rfl, rfl, rfl, by decide +kernel, rfl, by decide +kernel, by decide +kernel⟩
section
variable {P : Program} {w : World} {K : PySem.W.Frag} {mg : Str → Option Value} {base : Heap}
set_option maxHeartbeats 2000000 in
theorem ok_tn {f : Addr} {fd : FuncData} {k : Nat} (F : Fun K "_law_taker_new" "_law_taker_new" sTn f fd) (N : Names mg) : FnOk P w K mg base CX0 (k + 1) f fd ["life", "sav1"] (spTn K) := by
  refine F.ok scTn (fun vs H Q E h => ?_) (fun cdv A outer s H vs Q E hr h => ?_)
  · obtain ⟨sv, life, at2, rws, sp, rfl, _⟩ := h
    rfl
  · obtain ⟨sv, life, at2, rws, sp, rfl, ⟨pT, pS, hsv, tpT, tpS⟩, hks2, hsp, q0⟩ := h
    have hks : ∀ r ∈ rws, r.1 ∈ allK := fun r m => (hks2 r m).1
    have q : ∀ o rd kn pc ev ot rkv kkv H', Ex H H' → H o = none → H rd = none → H kn = none → H pc = none → H ev = none → H ot = none → OwAt H' o rd kn pc ev ot [] [] life at2 rkv kkv [] → DI allK rkv (fRows rws) → MI allK kkv (inSp sp) → Q (.ref o) H' := fun o rd kn pc ev ot rkv kkv H' x n1 n2 n3 n4 n5 n6 W di mi => q0 o (fun a => a ∈ [o, rd, kn, pc, ev, ot]) H' x (fun a ha => by
      simp only [List.mem_cons, List.not_mem_nil, or_false] at ha
      rcases ha with rfl | rfl | rfl | rfl | rfl | rfl <;> assumption) (by simp) ⟨rd, kn, pc, ev, ot, rkv, kkv, [], [], ⟨W, (begun_rows fun r m => (hks2 r m).2) ▸ di, mi.iff fun k => begun_sure k, rfl, (fun t mt => by cases mt), List.nodup_nil, (fun x mx => by cases mx), .nil, (fun e me => by cases me), fun x mx => by cases mx⟩, fun a => Iff.rfl⟩
    refine ⟨_, (pss_cons (ps_set (i := 2) scTn.nd rfl (.inl rfl) pe_dnewK)
      (pss_cons (ps_for PassesOwn.never rfl (pi_tup (pe_ix ix_tup (pv 1) pe_int (fun _ _ => rfl))) (pg_tup rfl (pgs_cons (pg_name (i := 3) scTn.nd rfl (.inl rfl)) (pgs_cons (pg_name (i := 4) scTn.nd rfl (.inl rfl)) pgs_nil))) (pss_one (ps_for PassesOwn.never rfl (pi_range2 rfl N.range (pa_cons (pv 3) (pa_cons (pv 4) pa_nil))) (pg_name (i := 5) scTn.nd rfl (.inl rfl)) (pss_one (ps_dput (hu_of hr) (pv 2) (pv 5) pe_bl rfl)))))
      (pss_cons (ps_set (i := 6) scTn.nd rfl (.inl rfl) (pe_disp (pps_cons pe_str (pv 0) (pps_cons pe_str (pe_ix ix_tup (pv 1) pe_int (fun _ _ => rfl)) (pps_cons pe_str (pe_callTy (cr_dictT rfl) (by rfl) N.dict boot_dict (pa_cons (pe_ix ix_tup (pv 1) pe_int (fun _ _ => rfl)) pa_nil)) (pps_cons pe_str (pv 2) pps_nil)))) (by rfl) (by rfl) (fun z => by cases z) (by decide)))
      (pss_cons (ps_expr (pe_bm PySem.F.plainAttrs_dict PySem.F.slot_dict_update PySem.F.type_dict_update mt_dupd (pv 6) (pa_cons (pe_disp (pps_cons pe_str pe_dnewK (pps_cons pe_str (pe_lst pa_nil) (pps_cons pe_str (pe_lst pa_nil) pps_nil))) (by rfl) (by rfl) (fun z => by cases z) (by decide)) pa_nil)))
      (pss_one (ps_ret (pv 6))))))), ?_⟩
    refine s_seq fun kn hkn => g_name ?_
    dsimp only
    have x1 : Ex H (upd H kn (.dK [])) := Ex.new hkn
    have hk1 : (upd H kn (.dK [])) kn = some (.dK []) := upd_same
    generalize hH1 : upd H kn (.dK []) = H1 at x1 hk1
    obtain ⟨xs, pxs, dxs⟩ := id tpS
    have xl : xs.length = sp.length := by rw [dps_len dxs, List.length_map]
    refine s_seq (s_forT (K := K) (a := pS) (xs := xs) (ev_ix2 (ev_var rfl) (Evl.ex_t x1 hsv)) (Evl.ex_t x1 pxs.st) (fun j σ' G => ∃ y3 y4 y5 kkv, σ' = [some (.int life), some (.ref sv), some (.ref kn), y3, y4, y5, none] ∧ Bar kn H1 G ∧ G kn = some (.dK kkv) ∧ MI allK kkv (inSp (sp.take j))) (fun G x => ⟨none, none, none, [], rfl, Bar.ex x, x _ _ hk1, MI.nil.iff fun k => ⟨fun z => z.elim, fun ⟨_, m, _⟩ => by cases m⟩⟩) (fun j σ' G _ ⟨_, _, _, _, _, b, _⟩ => bar_t hk1 b (Evl.ex_t x1 pxs.st)) (fun j x σ' G hx p' => ?_) (fun σ' G p' => ?_))
    · obtain ⟨y3, y4, y5, kkv, rfl, b, hkG, mi⟩ := p'
      obtain ⟨dd, hdd, hxd⟩ := dps_at (dps_bar hk1 b _ _ (dps_same x1 _ _ dxs)) hx
      rw [List.getElem?_map] at hdd
      obtain ⟨r, hr', rfl⟩ := Option.map_eq_some_iff.mp hdd
      obtain ⟨pa, v0, v1, rfl, hpa, e0, e1⟩ := dpt2 hxd
      cases e0
      cases e1
      obtain ⟨r1, r2, r3⟩ := hsp r (List.mem_of_getElem? hr')
      refine ⟨pa, _, rfl, hpa, rfl, _, _, rfl, _, _, rfl, rfl, ?_⟩
      dsimp only
      refine s_forR2 (lo := r.1) (n := r.2) (ea_cons (ev_var rfl) (ea_cons (ev_var rfl) ea_nil)) ⟨by omega, by omega, by omega, by omega⟩ (fun i σ2 G2 => ∃ z5 kkv2, σ2 = [some (.int life), some (.ref sv), some (.ref kn), some (.int r.1), some (.int r.2), z5, none] ∧ Bar kn H1 G2 ∧ G2 kn = some (.dK kkv2) ∧ MI allK kkv2 (fun k => inSp (sp.take j) k ∨ (r.1 ≤ k ∧ k < r.1 + (i : Int)))) (fun G2 xg => ⟨y5, kkv, rfl, b.trans (Bar.ex xg), xg _ _ hkG, mi.iff fun k => ⟨.inl, fun z => z.elim id fun y => by omega⟩⟩) (fun i σ2 G2 hi p => ?_) (fun σ2 G2 p => ?_)
      · obtain ⟨z5, kkv2, rfl, b2, hk2, mi2⟩ := p
        dsimp only
        refine ⟨.ref kn, rfl, .int (r.1 + (i : Int)), rfl, kn, _, rfl, DPut.k (k := .inl (r.1 + (i : Int))) hk2 (sz_lt (by have := mi2.len; rw [allKs_len] at this; omega)), ?_⟩
        refine ⟨_, _, rfl, b2.put, upd_same, (mi2.put (mem_allK ⟨by omega, by omega⟩)).iff fun k => ?_⟩
        rw [or_assoc]
        refine or_congr Iff.rfl ?_
        constructor
        · rintro (z | z) <;> omega
        · intro z
          omega
      · obtain ⟨z5, kkv2, rfl, b2, hk2, mi2⟩ := p
        refine ⟨_, _, _, kkv2, rfl, b2, hk2, mi2.iff fun k => ?_⟩
        rw [take_rows sp hr', inSp_snoc]
        refine or_congr Iff.rfl ?_
        constructor
        · intro z
          omega
        · intro z
          omega
    · obtain ⟨y3, y4, y5, kkv, rfl, b, hkG, mi⟩ := p'
      rw [xl, List.take_length] at mi
      have xG : Ex H G := b.exOf x1 hkn
      refine s_seq (fun o ho => ?_)
      have xo : Ex G (upd G o (.dK [])) := Ex.new ho
      have ho1 : (upd G o (.dK [])) o = some (.dK []) := upd_same
      generalize hG1 : upd G o (.dK []) = G1 at xo ho1
      have xG1 := xG.trans xo
      refine ⟨_, rfl, ?_⟩
      refine ev_ix0 (ev_var rfl) (Evl.ex_t xG1 hsv) G1 (Ex.refl G1) _ fun G2 x2 => ?_
      refine (ev_ix1 (ev_var rfl) (Evl.ex_t (xG1.trans x2) hsv)) G2 (Ex.refl G2) _ fun G3 x3 => ?_
      unfold tNil
      have xG3 := (xG1.trans x2).trans x3
      refine dict_di (K := K) (tpT.same xG3) (ks := allK) hks fun rd rkv hrd di => ?_
      have xrd : Ex G3 (upd G3 rd (.dK rkv)) := Ex.new hrd
      have hrd1 : (upd G3 rd (.dK rkv)) rd = some (.dK rkv) := upd_same
      generalize hG4 : upd G3 rd (.dK rkv) = G4 at xrd hrd1
      have x14 := (x2.trans x3).trans xrd
      refine ⟨_, rfl, x14 _ _ ho1, [(.inr "life", .int life), (.inr "place", .int at2), (.inr "rows", .ref rd), (.inr "known", .ref kn)], rfl, by simp, g_name ?_⟩
      dsimp only
      have nkn : ∀ {a : Addr}, G a = none → a ≠ kn := fun {a} h z => by
        rw [z, hkG] at h
        cases h
      have okn := nkn ho
      have xU : ∀ a u, a ≠ o → G4 a = some u → (upd G4 o (.dK (mergeK [] [(.inr "life", .int life), (.inr "place", .int at2), (.inr "rows", .ref rd), (.inr "known", .ref kn)]))) a = some u := fun a u n h => by rw [upd_ne n]; exact h
      have hoU : (upd G4 o (.dK (mergeK [] [(.inr "life", .int life), (.inr "place", .int at2), (.inr "rows", .ref rd), (.inr "known", .ref kn)]))) o = some (.dK (mergeK [] [(.inr "life", .int life), (.inr "place", .int at2), (.inr "rows", .ref rd), (.inr "known", .ref kn)])) := upd_same
      have nU : ∀ a, (upd G4 o (.dK (mergeK [] [(.inr "life", .int life), (.inr "place", .int at2), (.inr "rows", .ref rd), (.inr "known", .ref kn)]))) a = none → G4 a = none := fun a h => by
        have ao : a ≠ o := fun z => by rw [z, upd_same] at h; cases h
        rw [upd_ne ao] at h
        exact h
      generalize hG5 : upd G4 o (.dK (mergeK [] [(.inr "life", .int life), (.inr "place", .int at2), (.inr "rows", .ref rd), (.inr "known", .ref kn)])) = G5 at xU hoU nU
      have xG4 := xG.trans (xo.trans x14)
      have x5 : Ex H G5 := fun a u h => xU a u (fun z => by
        have := xG a u h
        rw [z, ho] at this
        cases this) (xG4 a u h)
      have rdo : rd ≠ o := fun z => by
        have := (x2.trans x3) _ _ ho1
        rw [← z, hrd] at this
        cases this
      have hkn5 : G5 kn = some (.dK kkv) := xU _ _ okn.symm ((xo.trans x14) _ _ hkG)
      have hrd5 : G5 rd = some (.dK rkv) := xU _ _ rdo hrd1
      have rdkn : rd ≠ kn := fun z => by
        have := (xo.trans (x2.trans x3)) _ _ hkG
        rw [← z, hrd] at this
        cases this
      refine s_seq ⟨.ref o, rfl, .inr (.inr (.inl ⟨rfl, .inl ⟨_, hoU⟩⟩)), fun u hu pc hpc => ⟨Nat.zero_le _, fun ev hev => ⟨Nat.zero_le _, fun ot hot => ?_⟩⟩⟩
      have y1 : Ex G5 (upd G5 u (.dK [])) := Ex.new hu
      have hu1 : (upd G5 u (.dK [])) u = some (.dK []) := upd_same
      generalize hK1 : upd G5 u (.dK []) = K1 at y1 hu1 hpc hev hot ⊢
      have y2 : Ex K1 (upd K1 pc (.dK [])) := Ex.new hpc
      have hpc2 : (upd K1 pc (.dK [])) pc = some (.dK []) := upd_same
      generalize hK2 : upd K1 pc (.dK []) = K2 at y2 hpc2 hev hot ⊢
      have y3' : Ex K2 (upd K2 ev (.lst [])) := Ex.new hev
      have hev3 : (upd K2 ev (.lst [])) ev = some (.lst []) := upd_same
      generalize hK3 : upd K2 ev (.lst []) = K3 at y3' hev3 hot ⊢
      have y4' : Ex K3 (upd K3 ot (.lst [])) := Ex.new hot
      have hot4 : (upd K3 ot (.lst [])) ot = some (.lst []) := upd_same
      generalize hK4 : upd K3 ot (.lst []) = K4 at y4' hot4 ⊢
      have z14 := (y2.trans y3').trans y4'
      have z4 := y1.trans z14
      have hu4 := z14 _ _ hu1
      have uo : u ≠ o := fun z => by
        rw [z, hoU] at hu
        cases hu
      have ne_of : ∀ {a : Addr} {v : HO}, G5 a = some v → a ≠ u := fun {a v} h z => by
        rw [z, hu] at h
        cases h
      have pco : pc ≠ o := fun z => by
        have := y1 _ _ hoU
        rw [← z, hpc] at this
        cases this
      have pcu : pc ≠ u := fun z => by
        rw [z, hu1] at hpc
        cases hpc
      have oto : ot ≠ o := fun z => by
        have := ((y1.trans y2).trans y3') _ _ hoU
        rw [← z, hot] at this
        cases this
      have otu : ot ≠ u := fun z => by
        have := (y2.trans y3') _ _ hu1
        rw [← z, hot] at this
        cases this
      have ne_pc : ∀ {a : Addr} {v : HO}, G5 a = some v → a ≠ pc := fun {a v} h z => by
        have := y1 _ _ h
        rw [z, hpc] at this
        cases this
      have fne : ∀ {a c : Addr} {v : HO} {Z : Hp}, Z a = some v → Z c = none → a ≠ c := fun h n z => by
        rw [z, n] at h
        cases h
      have y12 := y1.trans y2
      have y13 := y12.trans y3'
      have evu : ev ≠ u := (fne (y2 _ _ hu1) hev).symm
      have evo : ev ≠ o := (fne (y12 _ _ hoU) hev).symm
      have nd6 : [o, rd, kn, pc, ev, ot].Nodup := by
        simp only [List.nodup_cons, List.mem_cons, List.not_mem_nil, or_false, not_or, List.nodup_nil, and_true, not_false_eq_true]
        exact ⟨⟨rdo.symm, okn, pco.symm, evo.symm, oto.symm⟩, ⟨rdkn, ne_pc hrd5, fne (y12 _ _ hrd5) hev, fne (y13 _ _ hrd5) hot⟩, ⟨ne_pc hkn5, fne (y12 _ _ hkn5) hev, fne (y13 _ _ hkn5) hot⟩, ⟨fne hpc2 hev, fne (y3' _ _ hpc2) hot⟩, fne hev3 hot⟩
      refine ⟨hu4, [(.inr "pieces", .ref pc), (.inr "ever", .ref ev), (.inr "out", .ref ot)], rfl, by simp, ?_⟩
      refine ⟨o, u, _, _, rfl, rfl, uo.symm, by rw [upd_ne uo.symm]; exact z4 _ _ hoU, upd_same, Nat.le_trans (Nat.add_le_add (length_mergeK _ []) (length_mergeK _ [])) (by simp), ?_⟩
      rw [okL_made]
      have keep : ∀ a v, a ≠ o → a ≠ u → K4 a = some v → (upd (upd K4 u (.dK (mergeK [] [(.inr "pieces", .ref pc), (.inr "ever", .ref ev), (.inr "out", .ref ot)]))) o (.dK (okL life at2 rd kn pc ev ot))) a = some v := fun a v n1 n2 h => by
        rw [upd_ne n1, upd_ne n2]
        exact h
      have Ho := fresh_back xG ho
      refine ⟨_, rfl, q o rd kn pc ev ot rkv kkv _ (fun a v h => keep a v (fun z => ?_) (ne_of (x5 a v h)) (z4 _ _ (x5 a v h))) Ho (fresh_back xG3 hrd) hkn (fresh_back (x5.trans y1) hpc) (fresh_back (x5.trans y12) hev) (fresh_back (x5.trans ((y1.trans y2).trans y3')) hot) ⟨upd_same, keep _ _ rdo (ne_of hrd5) (z4 _ _ hrd5), keep _ _ okn.symm (ne_of hkn5) (z4 _ _ hkn5), keep _ _ pco pcu ((y3'.trans y4') _ _ hpc2), keep _ _ evo evu (y4' _ _ hev3), keep _ _ oto otu hot4, rdo.symm, okn, pco.symm, rdkn, ne_pc hrd5, ne_pc hkn5, nd6⟩ di mi⟩
      rw [z, Ho] at h
      cases h
end
end K27
namespace K27
open PySem L2 L2H PyProof.Rows Tc Evl
structure OwN (o rd kn pc ev ot : Addr) : Prop where
  n01 : o ≠ rd
  n02 : o ≠ kn
  n03 : o ≠ pc
  n04 : o ≠ ev
  n05 : o ≠ ot
  n12 : rd ≠ kn
  n13 : rd ≠ pc
  n14 : rd ≠ ev
  n15 : rd ≠ ot
  n23 : kn ≠ pc
  n24 : kn ≠ ev
  n25 : kn ≠ ot
  n34 : pc ≠ ev
  n35 : pc ≠ ot
  n45 : ev ≠ ot
theorem ow_n {o rd kn pc ev ot : Addr} (h : [o, rd, kn, pc, ev, ot].Nodup) : OwN o rd kn pc ev ot := by
  simp only [List.nodup_cons, List.mem_cons, List.not_mem_nil, or_false, not_or, List.nodup_nil, and_true, not_false_eq_true] at h
  obtain ⟨⟨h1, h2, h3, h4, h5⟩, ⟨h6, h7, h8, h9⟩, ⟨h10, h11, h12⟩, ⟨h13, h14⟩, h15⟩ := h
  exact ⟨h1, h2, h3, h4, h5, h6, h7, h8, h9, h10, h11, h12, h13, h14, h15⟩
section
variable {K : PySem.W.Frag} {H : Hp} {o rd kn pc ev ot : Addr} {pkv rkv kkv : List (Key × V)} {nv : List V} {life at' : Int} {ov : List V}
theorem OwAt.put_o {z : Int} (S : OwAt H o rd kn pc ev ot pkv nv life at' rkv kkv ov) : OwAt (upd H o (.dK (okL life z rd kn pc ev ot))) o rd kn pc ev ot pkv nv life z rkv kkv ov := by
  have N := ow_n S.nn
  exact ⟨upd_same, by rw [upd_ne N.n01.symm]; exact S.hr, by rw [upd_ne N.n02.symm]; exact S.hk, by rw [upd_ne N.n03.symm]; exact S.hp, by rw [upd_ne N.n04.symm]; exact S.he, by rw [upd_ne N.n05.symm]; exact S.ho, S.n1, S.n2, S.n3, S.n4, S.n5, S.n6, S.nn⟩
theorem OwAt.put_rd {rkv2 : List (Key × V)} (S : OwAt H o rd kn pc ev ot pkv nv life at' rkv kkv ov) : OwAt (upd H rd (.dK rkv2)) o rd kn pc ev ot pkv nv life at' rkv2 kkv ov := by
  have N := ow_n S.nn
  exact ⟨by rw [upd_ne N.n01]; exact S.ob, upd_same, by rw [upd_ne N.n12.symm]; exact S.hk, by rw [upd_ne N.n13.symm]; exact S.hp, by rw [upd_ne N.n14.symm]; exact S.he, by rw [upd_ne N.n15.symm]; exact S.ho, S.n1, S.n2, S.n3, S.n4, S.n5, S.n6, S.nn⟩
theorem OwAt.put_kn {kkv2 : List (Key × V)} (S : OwAt H o rd kn pc ev ot pkv nv life at' rkv kkv ov) : OwAt (upd H kn (.dK kkv2)) o rd kn pc ev ot pkv nv life at' rkv kkv2 ov := by
  have N := ow_n S.nn
  exact ⟨by rw [upd_ne N.n02]; exact S.ob, by rw [upd_ne N.n12]; exact S.hr, upd_same, by rw [upd_ne N.n23.symm]; exact S.hp, by rw [upd_ne N.n24.symm]; exact S.he, by rw [upd_ne N.n25.symm]; exact S.ho, S.n1, S.n2, S.n3, S.n4, S.n5, S.n6, S.nn⟩
theorem OwAt.put_pc {pkv2 : List (Key × V)} (S : OwAt H o rd kn pc ev ot pkv nv life at' rkv kkv ov) : OwAt (upd H pc (.dK pkv2)) o rd kn pc ev ot pkv2 nv life at' rkv kkv ov := by
  have N := ow_n S.nn
  exact ⟨by rw [upd_ne N.n03]; exact S.ob, by rw [upd_ne N.n13]; exact S.hr, by rw [upd_ne N.n23]; exact S.hk, upd_same, by rw [upd_ne N.n34.symm]; exact S.he, by rw [upd_ne N.n35.symm]; exact S.ho, S.n1, S.n2, S.n3, S.n4, S.n5, S.n6, S.nn⟩
theorem OwAt.put_ev {nv2 : List V} (S : OwAt H o rd kn pc ev ot pkv nv life at' rkv kkv ov) : OwAt (upd H ev (.lst nv2)) o rd kn pc ev ot pkv nv2 life at' rkv kkv ov := by
  have N := ow_n S.nn
  exact ⟨by rw [upd_ne N.n04]; exact S.ob, by rw [upd_ne N.n14]; exact S.hr, by rw [upd_ne N.n24]; exact S.hk, by rw [upd_ne N.n34]; exact S.hp, upd_same, by rw [upd_ne N.n45.symm]; exact S.ho, S.n1, S.n2, S.n3, S.n4, S.n5, S.n6, S.nn⟩
theorem OwAt.put_ot {ov2 : List V} (S : OwAt H o rd kn pc ev ot pkv nv life at' rkv kkv ov) : OwAt (upd H ot (.lst ov2)) o rd kn pc ev ot pkv nv life at' rkv kkv ov2 := by
  have N := ow_n S.nn
  exact ⟨by rw [upd_ne N.n05]; exact S.ob, by rw [upd_ne N.n15]; exact S.hr, by rw [upd_ne N.n25]; exact S.hk, by rw [upd_ne N.n35]; exact S.hp, by rw [upd_ne N.n45]; exact S.he, upd_same, S.n1, S.n2, S.n3, S.n4, S.n5, S.n6, S.nn⟩
theorem OwAt.kt_o {u : HO} (S : OwAt H o rd kn pc ev ot pkv nv life at' rkv kkv ov) : Kt H (upd H o u) := kt_upd (S.noT _ (by simp))
theorem OwAt.kt_rd {u : HO} (S : OwAt H o rd kn pc ev ot pkv nv life at' rkv kkv ov) : Kt H (upd H rd u) := kt_upd (S.noT _ (by simp))
theorem OwAt.kt_kn {u : HO} (S : OwAt H o rd kn pc ev ot pkv nv life at' rkv kkv ov) : Kt H (upd H kn u) := kt_upd (S.noT _ (by simp))
theorem OwAt.kt_pc {u : HO} (S : OwAt H o rd kn pc ev ot pkv nv life at' rkv kkv ov) : Kt H (upd H pc u) := kt_upd (S.noT _ (by simp))
theorem OwAt.kt_ev {u : HO} (S : OwAt H o rd kn pc ev ot pkv nv life at' rkv kkv ov) : Kt H (upd H ev u) := kt_upd (S.noT _ (by simp))
theorem OwAt.kt_ot {u : HO} (S : OwAt H o rd kn pc ev ot pkv nv life at' rkv kkv ov) : Kt H (upd H ot u) := kt_upd (S.noT _ (by simp))
theorem OwAt.ex {H' : Hp} (S : OwAt H o rd kn pc ev ot pkv nv life at' rkv kkv ov) (x : Ex H H') : OwAt H' o rd kn pc ev ot pkv nv life at' rkv kkv ov := S.keep fun a u _ h => x a u h
theorem OwAt.e_life {i : Nat} {σ : L2.St} (S : OwAt H o rd kn pc ev ot pkv nv life at' rkv kkv ov) (hi : σ[i]? = some (some (.ref o))) : Ev (tDGet (tVar i) (tC (.str "life"))) σ H (.int life) := fun G x Q q => ⟨.ref o, hi, o, _, rfl, (okv_life life at' rd kn pc ev ot) ▸ DGet.k (k := .inr "life") (x _ _ S.ob), q G (Ex.refl G)⟩
theorem OwAt.e_place {i : Nat} {σ : L2.St} (S : OwAt H o rd kn pc ev ot pkv nv life at' rkv kkv ov) (hi : σ[i]? = some (some (.ref o))) : Ev (tDGet (tVar i) (tC (.str "place"))) σ H (.int at') := fun G x Q q => ⟨.ref o, hi, o, _, rfl, (okv_place life at' rd kn pc ev ot) ▸ DGet.k (k := .inr "place") (x _ _ S.ob), q G (Ex.refl G)⟩
theorem OwAt.e_rows {i : Nat} {σ : L2.St} (S : OwAt H o rd kn pc ev ot pkv nv life at' rkv kkv ov) (hi : σ[i]? = some (some (.ref o))) : Ev (tDGet (tVar i) (tC (.str "rows"))) σ H (.ref rd) := fun G x Q q => ⟨.ref o, hi, o, _, rfl, (okv_rows life at' rd kn pc ev ot) ▸ DGet.k (k := .inr "rows") (x _ _ S.ob), q G (Ex.refl G)⟩
theorem OwAt.e_known {i : Nat} {σ : L2.St} (S : OwAt H o rd kn pc ev ot pkv nv life at' rkv kkv ov) (hi : σ[i]? = some (some (.ref o))) : Ev (tDGet (tVar i) (tC (.str "known"))) σ H (.ref kn) := fun G x Q q => ⟨.ref o, hi, o, _, rfl, (okv_known life at' rd kn pc ev ot) ▸ DGet.k (k := .inr "known") (x _ _ S.ob), q G (Ex.refl G)⟩
theorem OwAt.e_pieces {i : Nat} {σ : L2.St} (S : OwAt H o rd kn pc ev ot pkv nv life at' rkv kkv ov) (hi : σ[i]? = some (some (.ref o))) : Ev (tDGet (tVar i) (tC (.str "pieces"))) σ H (.ref pc) := fun G x Q q => ⟨.ref o, hi, o, _, rfl, (okv_pieces life at' rd kn pc ev ot) ▸ DGet.k (k := .inr "pieces") (x _ _ S.ob), q G (Ex.refl G)⟩
theorem OwAt.e_ever {i : Nat} {σ : L2.St} (S : OwAt H o rd kn pc ev ot pkv nv life at' rkv kkv ov) (hi : σ[i]? = some (some (.ref o))) : Ev (tDGet (tVar i) (tC (.str "ever"))) σ H (.ref ev) := fun G x Q q => ⟨.ref o, hi, o, _, rfl, (okv_ever life at' rd kn pc ev ot) ▸ DGet.k (k := .inr "ever") (x _ _ S.ob), q G (Ex.refl G)⟩
theorem OwAt.e_out {i : Nat} {σ : L2.St} (S : OwAt H o rd kn pc ev ot pkv nv life at' rkv kkv ov) (hi : σ[i]? = some (some (.ref o))) : Ev (tDGet (tVar i) (tC (.str "out"))) σ H (.ref ot) := fun G x Q q => ⟨.ref o, hi, o, _, rfl, (okv_out life at' rd kn pc ev ot) ▸ DGet.k (k := .inr "out") (x _ _ S.ob), q G (Ex.refl G)⟩
end
/-- rows of a stretch -/
structure RowsIn (a b : Int) (rs : List (Int × Int)) : Prop where
  up : rs.Pairwise fun x y => x.1 < y.1
  inn : ∀ r ∈ rs, a ≤ r.1 ∧ r.1 < b
  wo : ∀ r ∈ rs, 0 ≤ r.2 ∧ r.2 < 1000
theorem appl_at {rs : List (Int × Int)} {g : Int → Option Int} {k : Int} (h : ∀ z, (k, z) ∉ rs) : appl g (rs.map fun r => (r.1, some r.2)) k = g k := by
  induction rs generalizing g with
  | nil => rfl
  | cons r rs ih =>
    show appl (fset g r.1 (some r.2)) (rs.map fun r => (r.1, some r.2)) k = _
    rw [ih fun z m => h z (List.mem_cons_of_mem _ m)]
    unfold fset
    rw [if_neg fun e => h r.2 (by rw [e]; exact List.mem_cons_self)]
theorem appl_in {rs : List (Int × Int)} {g : Int → Option Int} {k z : Int} (up : rs.Pairwise fun x y => x.1 < y.1) (h : (k, z) ∈ rs) : appl g (rs.map fun r => (r.1, some r.2)) k = some z := by
  induction rs generalizing g with
  | nil => cases h
  | cons r rs ih =>
    obtain ⟨p1, p2⟩ := List.pairwise_cons.mp up
    show appl (fset g r.1 (some r.2)) (rs.map fun r => (r.1, some r.2)) k = _
    rcases List.mem_cons.mp h with e | mr
    · subst e
      rw [appl_at fun z' m' => by
        have := p1 _ m'
        simp at this]
      unfold fset
      rw [if_pos rfl]
    · exact ih p2 mr
theorem fRows_mem {rs : List (Int × Int)} {k z : Int} (up : rs.Pairwise fun x y => x.1 < y.1) : fRows rs k = some z ↔ (k, z) ∈ rs := by
  constructor
  · intro h
    obtain ⟨r, m, e⟩ := fRows_in (rws := rs) (k := k) (by rw [h]; rfl)
    have := appl_in (g := fun _ => none) up (show (k, r.2) ∈ rs by rw [← e]; exact m)
    unfold fRows at h
    rw [h] at this
    rw [Option.some.inj this, ← e]
    exact m
  · exact fun m => appl_in up m
def newOnes (f : Kn) (rs : List (Int × Int)) : List (Int × Int) := rs.filter fun r => (f r.1).isNone
theorem copies_are {f : Kn} {a b : Int} {rs : List (Int × Int)} (ri : RowsIn a b rs) : copiesOf rs (newKeys f a b) = newOnes f rs := by
  have pk : (newKeys f a b).Pairwise (· < ·) := by
    unfold newKeys
    rw [List.pairwise_map]
    exact (List.pairwise_lt_range.filter _).imp fun {a b} z => by omega
  have p1 : (copiesOf rs (newKeys f a b)).Pairwise fun x y => x.1 < y.1 := by
    unfold copiesOf
    refine List.Pairwise.filterMap _ (fun k k' h r hr r' hr' => ?_) pk
    obtain ⟨z, _, rfl⟩ := Option.map_eq_some_iff.mp hr
    obtain ⟨z', _, rfl⟩ := Option.map_eq_some_iff.mp hr'
    exact h
  have p2 : (newOnes f rs).Pairwise fun x y => x.1 < y.1 := ri.up.filter _
  have nd : ∀ {l : List (Int × Int)}, (l.Pairwise fun x y => x.1 < y.1) → l.Nodup := fun h => h.imp fun {x y} z e => by
    rw [e] at z
    omega
  have mem : ∀ r, r ∈ copiesOf rs (newKeys f a b) ↔ r ∈ newOnes f rs := fun r => by
    obtain ⟨k, z⟩ := r
    unfold copiesOf newOnes
    rw [List.mem_filterMap, List.mem_filter]
    constructor
    · rintro ⟨k', m, h⟩
      obtain ⟨z', hz, e⟩ := Option.map_eq_some_iff.mp h
      cases e
      exact ⟨(fRows_mem ri.up).mp hz, by rw [(mem_new.mp m).2.2]; rfl⟩
    · rintro ⟨m, h⟩
      have i1 := ri.inn _ m
      refine ⟨k, mem_new.mpr ⟨i1.1, i1.2, Option.isNone_iff_eq_none.mp h⟩, ?_⟩
      rw [(fRows_mem ri.up).mpr m]
      rfl
  exact ((List.perm_ext_iff_of_nodup (nd p1) (nd p2)).mpr mem).eq_of_pairwise (fun x y _ _ h1 h2 => by omega) p1 p2
theorem learn_due {f : Kn} {a b : Int} {rs : List (Int × Int)} (ri : RowsIn a b rs) : (fun k => (learnP f a b rs k).join) = appl (fun k => (f k).join) ((newOnes f rs).map fun r => (r.1, some r.2)) := by
  funext k
  have p2 : (newOnes f rs).Pairwise fun x y => x.1 < y.1 := ri.up.filter _
  by_cases h : ∃ z, (k, z) ∈ newOnes f rs
  · obtain ⟨z, m⟩ := h
    rw [appl_in p2 m]
    obtain ⟨m1, m2⟩ := List.mem_filter.mp m
    have i1 := ri.inn _ m1
    unfold learnP
    rw [if_pos ⟨i1.1, i1.2, Option.isNone_iff_eq_none.mp m2⟩]
    show fRows rs k = some z
    exact (fRows_mem ri.up).mpr m1
  · rw [appl_at fun z m => h ⟨z, m⟩]
    unfold learnP
    split
    · rename_i c
      show fRows rs k = (f k).join
      rw [c.2.2]
      cases e : fRows rs k with
      | none => rfl
      | some z => exact absurd ⟨z, List.mem_filter.mpr ⟨(fRows_mem ri.up).mp e, by rw [c.2.2]; rfl⟩⟩ h
    · rfl
theorem learn_here {f : Kn} {a b : Int} {rs : List (Int × Int)} (k : Int) : (learnP f a b rs k).isSome = true ↔ (f k).isSome = true ∨ (a ≤ k ∧ k < b) := by
  unfold learnP
  split
  · rename_i c
    exact ⟨fun _ => .inr ⟨c.1, c.2.1⟩, fun _ => rfl⟩
  · rename_i c
    refine ⟨.inl, fun z => z.elim id fun y => ?_⟩
    cases e : f k with
    | none => exact absurd ⟨y.1, y.2, e⟩ c
    | some o => rfl
theorem s_dput {σ : L2.St} {H : Hp} {td ty tv : TE} {D : Ends} {a : Addr} {k : Key} {v : V} {kvs : List (Key × V)} (hv : Ev tv σ H v) (hd : Ev td σ H (.ref a)) (hk : Ev ty σ H (kV k)) (h : H a = some (.dK kvs)) (l : kvs.length < 40000) (q : ∀ H1, Ex H H1 → D.nx σ (upd H1 a (.dK (putK kvs k v)))) : sDPut td ty tv D σ H :=
  hv H (Ex.refl H) _ fun H1 x1 => hd H1 x1 _ fun H2 x2 => hk H2 (x1.trans x2) _ fun H3 x3 => ⟨a, _, rfl, DPut.k (((x1.trans x2).trans x3) _ _ h) (sz_lt (by omega)), q H3 ((x1.trans x2).trans x3)⟩
theorem s_daug {σ : L2.St} {H : Hp} {td ty tv : TE} {D : Ends} {a : Addr} {k : Key} {i j : Int} {kvs : List (Key × V)} (hd : Ev td σ H (.ref a)) (hk : Ev ty σ H (kV k)) (hv : Ev tv σ H (.int j)) (h : H a = some (.dK kvs)) (e : valV kvs k = some (.int i)) (l : kvs.length < 40000) (q : ∀ H1, Ex H H1 → D.nx σ (upd H1 a (.dK (putK kvs k (.int (i + j)))))) : sDAug td ty tv rAdd D σ H :=
  hd H (Ex.refl H) _ fun H1 x1 => hk H1 x1 _ fun H2 x2 => ⟨a, .int i, rfl, e ▸ DGet.k ((x1.trans x2) _ _ h), hv H2 (x1.trans x2) _ fun H3 x3 => ⟨i, j, rfl, rfl, _, DPut.k (((x1.trans x2).trans x3) _ _ h) (sz_lt (by omega)), q H3 ((x1.trans x2).trans x3)⟩⟩
theorem s_dpop {σ : L2.St} {H : Hp} {td ty : TE} {D : Ends} {a : Addr} {k : Key} {v : V} {kvs : List (Key × V)} (hd : Ev td σ H (.ref a)) (hk : Ev ty σ H (kV k)) (h : H a = some (.dK kvs)) (e : valV kvs k = some v) (q : ∀ H1, Ex H H1 → D.nx σ (upd H1 a (.dK (dropK kvs k)))) : tDrop (tDPop1 td ty) D σ H :=
  hd H (Ex.refl H) _ fun H1 x1 => ⟨a, rfl, .inl ⟨kvs, .inl (x1 _ _ h)⟩, hk H1 x1 _ fun H2 x2 => ⟨kvs, k, v, (x1.trans x2) _ _ h, rfl, e, q H2 (x1.trans x2)⟩⟩
theorem ret_tup {σ : L2.St} {H : Hp} {ta : TA} {D : Ends} {vs : List V} (ha : EvA ta σ H vs) (q : ∀ H1, Ex H H1 → vs.length ≤ sizeLine ∧ ∀ t, H1 t = none → D.rt (.ref t) (upd H1 t (.tup vs))) : tRet (tTup ta) D σ H := ha H (Ex.refl H) _ q
theorem ev_notN {σ : L2.St} {H : Hp} {te : TE} {v : V} (h : Ev te σ H v) : Ev (tNotN te) σ H (.bl (!decide (v = .non))) := fun H1 x Q q => h H1 x _ fun H2 x2 => q H2 x2
abbrev sOc : Stmt := topS 66
theorem scOc : FnScope ["own", "stretch", "rows", "key", "worth"] ["own", "stretch", "rows"] (defScope sOc) := ⟨rfl, rfl, rfl, by decide +kernel, rfl, by decide +kernel, by decide +kernel⟩
def Off4 (o rd kn ot : Addr) (H H' : Hp) : Prop := ∀ a u, a ≠ o → a ≠ rd → a ≠ kn → a ≠ ot → H a = some u → H' a = some u
def spOc (K : PySem.W.Frag) : Sp := fun vs H Q _ => ∃ (o rd kn pc ev ot st : Addr) (rw' : V) (pkv : List (Key × V)) (nv : List V) (life at' lo hi : Int) (rkv kkv : List (Key × V)) (ov : List V) (f : Kn) (es : List PyData) (rs : List (Int × Int)), vs = [.ref o, .ref st, rw'] ∧ OwAt H o rd kn pc ev ot pkv nv life at' rkv kkv ov ∧ DI allK rkv (fun k => (f k).join) ∧ MI allK kkv (fun k => (f k).isSome = true) ∧ DpAll K H ov es ∧ (∀ e ∈ es, nl 1 e = true) ∧ SqT K H st [.int lo, .int hi] ∧ Dp K H rw' (rowsD rs) ∧ RowsIn lo hi rs ∧ 0 ≤ lo ∧ lo < hi ∧ hi ≤ 1000 ∧ rs.length ≤ 1000 ∧ es.length ≤ 5000 ∧
  ∀ rkv' kkv' ov' H', Off4 o rd kn ot H H' → Kt H H' → OwAt H' o rd kn pc ev ot pkv nv life at' rkv' kkv' ov' → DI allK rkv' (fun k => (learnP f lo hi rs k).join) → MI allK kkv' (fun k => (learnP f lo hi rs k).isSome = true) → DpAll K H' ov' (es ++ (newOnes f rs).map (cpD at')) → Q .non H'
section
variable {P : Program} {w : World} {K : PySem.W.Frag} {mg : Str → Option Value} {base : Heap}
theorem rows_ref {H : Hp} {v : V} {fs : List (Int × Int)} (h : Dp K H v (rowsD fs)) : ∃ p xs, v = .ref p ∧ SqT K H p xs ∧ DpAll K H xs (fs.map Tc.pairD) ∧ xs.length = fs.length := by
  cases h with
  | @tup a xs _ hs hA => exact ⟨a, xs, rfl, hs, hA, by rw [dps_len hA, List.length_map]⟩
theorem new_snoc (f : Kn) (rs : List (Int × Int)) (r : Int × Int) : newOnes f (rs ++ [r]) = newOnes f rs ++ (if (f r.1).isNone = true then [r] else []) := by
  unfold newOnes
  rw [List.filter_append]
  congr 1
  cases h : (f r.1).isNone with
  | true => rw [if_pos rfl, List.filter_cons_of_pos (by exact h)]; rfl
  | false => rw [if_neg Bool.false_ne_true, List.filter_cons_of_neg (by rw [h]; exact Bool.false_ne_true)]; rfl
set_option maxHeartbeats 2000000 in
theorem ok_oc {f : Addr} {fd : FuncData} {k : Nat} (F : Fun K "_law_taker_copies" "_law_taker_copies" sOc f fd) (N : Names mg) : FnOk P w K mg base CX0 (k + 1) f fd ["own", "stretch", "rows"] (spOc K) := by
  refine F.ok scOc (fun vs H Q E h => ?_) (fun cdv A outer s H vs Q E hr h => ?_)
  · obtain ⟨o, rd, kn, pc, ev, ot, st, rw', pkv, nv, life, at', lo, hi, rkv, kkv, ov, f, es, rs, rfl, _⟩ := h
    rfl
  · obtain ⟨o, rd, kn, pc, ev, ot, st, rw', pkv, nv, life, at', lo, hi, rkv, kkv, ov, f, es, rs, rfl, W, di, mi, dE, nE, hst, hrw, ri, lo0, lohi, hi1, rl, el, q⟩ := h
    refine ⟨_, (pss_cons (ps_for PassesOwn.never rfl (pi_tup (pv 2)) (pg_tup rfl (pgs_cons (pg_name (i := 3) scOc.nd rfl (.inl rfl)) (pgs_cons (pg_name (i := 4) scOc.nd rfl (.inl rfl)) pgs_nil))) (pss_one (ps_if (pt_cmp (pc_dnotin (hu_of hr) (pv 3) (pe_dget (hu_of hr) (pv 0) pe_str (fun _ _ => rfl)))) (pss_cons (ps_dput (hu_of hr) (pe_dget (hu_of hr) (pv 0) pe_str (fun _ _ => rfl)) (pv 3) (pv 4) rfl)
      (pss_one (ps_expr (pe_bm PySem.F.plainAttrs_list PySem.F.slot_list_append PySem.F.type_list_append mt_append (pe_dget (hu_of hr) (pv 0) pe_str (fun _ _ => rfl)) (pa_cons (pe_tup (pa_cons (pe_op op_add (pe_dget (hu_of hr) (pv 0) pe_str (fun _ _ => rfl)) pe_int) (pa_cons pe_str (pa_cons (pv 3) (pa_cons (pv 4) pa_nil))))) pa_nil))))) pss_nil)))
      (pss_one (ps_for PassesOwn.never rfl (pi_range2 rfl N.range (pa_cons (pe_ix ix_tup (pv 1) pe_int (fun _ _ => rfl)) (pa_cons (pe_ix ix_tup (pv 1) pe_int (fun _ _ => rfl)) pa_nil))) (pg_name (i := 3) scOc.nd rfl (.inl rfl)) (pss_one (ps_dput (hu_of hr) (pe_dget (hu_of hr) (pv 0) pe_str (fun _ _ => rfl)) (pv 3) pe_bl rfl))))), ?_⟩
    obtain ⟨ps, xs, rfl, hps, hxs, xl⟩ := rows_ref hrw
    refine s_seq (s_forT (K := K) (a := ps) (xs := xs) (ev_var rfl) hps (fun j σ' G => ∃ y3 y4 rkv' ov', σ' = [some (.ref o), some (.ref st), some (.ref ps), y3, y4] ∧ Off4 o rd kn ot H G ∧ Kt H G ∧ OwAt G o rd kn pc ev ot pkv nv life at' rkv' kkv ov' ∧ DI allK rkv' (appl (fun k => (f k).join) ((newOnes f (rs.take j)).map fun r => (r.1, some r.2))) ∧ DpAll K G ov' (es ++ (newOnes f (rs.take j)).map (cpD at'))) (fun G x => ⟨none, none, rkv, ov, rfl, fun a u _ _ _ _ h => x a u h, Kt.ex x, W.ex x, di, by rw [List.take_zero]; show DpAll K G ov (es ++ []); rw [List.append_nil]; exact dps_same x _ _ dE⟩) (fun j σ' G _ ⟨_, _, _, _, _, _, kt, _⟩ => kt.t hps) (fun j x σ' G hx p' => ?_) (fun σ' G p' => ?_))
    · obtain ⟨y3, y4, rkv', ov', rfl, off, kt, W', di', dE'⟩ := p'
      obtain ⟨dd, hdd, hxd⟩ := dps_at (kt.dps (n := 1) (fun e me => by obtain ⟨r, _, rfl⟩ := List.mem_map.mp me; rfl) hxs) hx
      rw [List.getElem?_map] at hdd
      obtain ⟨r, hr', rfl⟩ := Option.map_eq_some_iff.mp hdd
      obtain ⟨pa, v0, v1, rfl, hpa, e0, e1⟩ := dpt2 hxd
      cases e0
      cases e1
      have mr := List.mem_of_getElem? hr'
      have rb := ri.inn r mr
      have tk : rs.take (j + 1) = rs.take j ++ [r] := take_rows rs hr'
      have fe : (!(valV kkv (.inl r.1)).isSome) = (f r.1).isNone := by
        have := mi.has r.1
        cases h1 : valV kkv (.inl r.1) with
        | none =>
          rw [h1] at this
          cases h2 : f r.1 with
          | none => rfl
          | some z => rw [h2] at this; exact absurd (this.mpr rfl) (by simp)
        | some v =>
          rw [h1] at this
          cases h2 : f r.1 with
          | none => rw [h2] at this; exact absurd (this.mp rfl) (by simp)
          | some z => rfl
      refine ⟨pa, _, rfl, hpa, rfl, _, _, rfl, _, _, rfl, rfl, ?_⟩
      dsimp only
      refine s_if (b := (f r.1).isNone) (fun G1 x1 Q' q' => ⟨.int r.1, rfl, W'.e_known (i := 0) rfl G1 x1 _ fun G2 x2 => ⟨kn, _, rfl, DGet.k (k := .inl r.1) ((x1.trans x2) _ _ W'.hk), _, rfl, by rw [fe]; exact q' G2 x2⟩⟩) (fun z G3 x3 => ?_) fun z G3 x3 => s_next ⟨_, _, rkv', ov', rfl, fun a u n1 n2 n3 n4 h => x3 _ _ (off a u n1 n2 n3 n4 h), kt.trans (Kt.ex x3), W'.ex x3, ?_, ?_⟩
      · have W3 := W'.ex x3
        have kl := di'.len
        rw [allKs_len] at kl
        refine s_seq (s_dput (ev_var rfl) (W3.e_rows rfl) (ev_var (v := .int r.1) rfl) (k := .inl r.1) W3.hr (by omega) fun G4 x4 => ?_)
        have W4 := (W3.ex x4).put_rd (rkv2 := putK rkv' (.inl r.1) (.int r.2))
        have k4 := (W3.ex x4).kt_rd (u := .dK (putK rkv' (.inl r.1) (.int r.2)))
        have o4 : Off4 o rd kn ot H (upd G4 rd (.dK (putK rkv' (.inl r.1) (.int r.2)))) := fun a u n1 n2 n3 n4 h => by
          rw [upd_ne n2]
          exact x4 _ _ (x3 _ _ (off a u n1 n2 n3 n4 h))
        have nlE : ∀ e ∈ es ++ (newOnes f (rs.take j)).map (cpD at'), nl 1 e = true := fun e me => by
          rcases List.mem_append.mp me with me | me
          · exact nE e me
          · obtain ⟨r, _, rfl⟩ := List.mem_map.mp me
            rfl
        have dE4 := k4.dps nlE (dps_same (x3.trans x4) _ _ dE')
        have kt4 := (kt.trans (Kt.ex (x3.trans x4))).trans k4
        generalize upd G4 rd (.dK (putK rkv' (.inl r.1) (.int r.2))) = G5 at W4 k4 o4 dE4 kt4 ⊢
        have ovl : ov'.length ≤ 6000 := by
          have := dps_len dE'
          rw [List.length_append, List.length_map] at this
          have h2 : (newOnes f (rs.take j)).length ≤ (rs.take j).length := List.length_filter_le _ _
          rw [List.length_take] at h2
          omega
        refine s_appU (l := ot) W4.ho (W4.e_out rfl) (eu_tup (ea_cons (ev_op (W4.e_place rfl) ev_c rv_add) (ea_cons ev_c (ea_cons (ev_var rfl) (ea_cons (ev_var rfl) ea_nil)))) (by simp)) (by omega) fun t G6 nt x6 ht => ?_
        have W6 := (W4.ex x6).put_ot (ov2 := ov' ++ [.ref t])
        have k6 := (W4.ex x6).kt_ot (u := .lst (ov' ++ [.ref t]))
        have tot : t ≠ ot := fun z => by
          rw [z, W4.ho] at nt
          cases nt
        refine ⟨_, _, _, _, rfl, fun a u n1 n2 n3 n4 h => by rw [upd_ne n4]; exact x6 _ _ (o4 a u n1 n2 n3 n4 h), (kt4.trans (Kt.ex x6)).trans k6, W6, ?_, ?_⟩
        · rw [tk, new_snoc, if_pos z, List.map_append, appl_app]
          exact di'.put (mem_allK (k := r.1) ⟨by omega, by omega⟩)
        · rw [tk, new_snoc, if_pos z, List.map_append, ← List.append_assoc]
          exact dps_app (k6.dps nlE (dps_same x6 _ _ dE4)) (.cons (.tup (k6.t (st_of ht)) (.cons (.int _) (.cons (.str _) (.cons (.int _) (.cons (.int _) .nil))))) .nil)
      · rw [tk, new_snoc, if_neg (by rw [z]; exact Bool.false_ne_true), List.append_nil]
        exact di'
      · rw [tk, new_snoc, if_neg (by rw [z]; exact Bool.false_ne_true), List.append_nil]
        exact dps_same x3 _ _ dE'
    · obtain ⟨y3, y4, rkv', ov', rfl, off, kt, W', di', dE'⟩ := p'
      rw [xl, List.take_length] at di' dE'
      have hst' := kt.t hst
      have nlE : ∀ e ∈ es ++ (newOnes f rs).map (cpD at'), nl 1 e = true := fun e me => by
        rcases List.mem_append.mp me with me | me
        · exact nE e me
        · obtain ⟨r, _, rfl⟩ := List.mem_map.mp me
          rfl
      refine s_forR2 (lo := lo) (n := hi) (ea_cons (ev_ix0 (ev_var rfl) hst') (ea_cons (ev_ix1 (ev_var rfl) hst') ea_nil)) ⟨by omega, by omega, by omega, by omega⟩ (fun m σ2 Gm => ∃ z3 kkv2, σ2 = [some (.ref o), some (.ref st), some (.ref ps), z3, y4] ∧ Off4 o rd kn ot H Gm ∧ Kt G Gm ∧ OwAt Gm o rd kn pc ev ot pkv nv life at' rkv' kkv2 ov' ∧ MI allK kkv2 (fun k => (f k).isSome = true ∨ (lo ≤ k ∧ k < lo + (m : Int)))) (fun Gm xm => ⟨y3, kkv, rfl, fun a u n1 n2 n3 n4 h => xm _ _ (off a u n1 n2 n3 n4 h), Kt.ex xm, W'.ex xm, mi.iff fun k => ⟨.inl, fun z => z.elim id fun y => by omega⟩⟩) (fun m σ2 Gm hm pm => ?_) (fun σ2 Gm pm => ?_)
      · obtain ⟨z3, kkv2, rfl, om, km, Wm, mim⟩ := pm
        try dsimp only
        have kl := mim.len
        rw [allKs_len] at kl
        refine s_dput (k := .inl (lo + (m : Int))) ev_c (Wm.e_known rfl) (ev_var rfl) Wm.hk (by omega) fun G4 x4 => ?_
        have W4 := Wm.ex x4
        refine ⟨_, _, rfl, fun a u n1 n2 n3 n4 h => by rw [upd_ne n3]; exact x4 _ _ (om a u n1 n2 n3 n4 h), (km.trans (Kt.ex x4)).trans W4.kt_kn, W4.put_kn, (mim.put (mem_allK ⟨by omega, by omega⟩)).iff fun k => ?_⟩
        rw [or_assoc]
        refine or_congr Iff.rfl ?_
        constructor
        · rintro (z | z) <;> omega
        · intro z
          omega
      · obtain ⟨z3, kkv2, rfl, om, km, Wm, mim⟩ := pm
        refine q rkv' kkv2 ov' Gm om (kt.trans km) Wm ?_ (mim.iff fun k => ?_) (km.dps nlE dE')
        · rw [learn_due ri]
          exact di'
        · rw [learn_here k]
          refine or_congr Iff.rfl ?_
          constructor
          · intro z
            omega
          · intro z
            omega
end
end K27
namespace K27
open PySem L2 L2H PyProof.Rows Tc Evl
theorem ev_dgetI {σ : L2.St} {H : Hp} {ty td : TE} {i : Int} {D : Addr} {kvs : List (Key × V)} {v : V} (hd : Ev td σ H (.ref D)) (hi : Ev ty σ H (.int i)) (h : H D = some (.dK kvs)) (e : valV kvs (Sum.inl i : Key) = some v) : Ev (tDGet td ty) σ H v := fun H1 x Q q =>
  hd H1 x _ fun H2 x2 => hi H2 (x.trans x2) _ fun H3 x3 => ⟨D, v, rfl, e ▸ DGet.k (k := Sum.inl i) (((x.trans x2).trans x3) _ _ h), q H3 (x2.trans x3)⟩
def spDoneL (K : PySem.W.Frag) : Sp := fun vs H Q _ => ∃ (D l : Addr) (ks : List Int) (kvs : List (Key × V)) (f : Int → Option Int) (y : V) (c : PyData), vs = [.ref D, .ref l] ∧ H D = some (.dK kvs) ∧ DI ks kvs f ∧ ks.length ≤ 1000 ∧ H l = some (.lst [y]) ∧ Dp K H y c ∧ goodCh ks c = true ∧
  ∀ kvs' H', Bar D H H' → H' D = some (.dK kvs') → DI ks kvs' (fset f (chD c).1 (chD c).2) → Q .non H'
section
variable {P : Program} {w : World} {K : PySem.W.Frag} {mg : Str → Option Value} {base : Heap}
theorem ok_doneL {f : Addr} {fd : FuncData} {k : Nat} (F : Fun K "_law_done" "_law_done" sDone f fd) : FnOk P w K mg base CX0 (k + 1) f fd ["rows", "changes"] (spDoneL K) := by
  refine F.ok scDone (fun vs H Q E h => ?_) (fun cdv A outer s H vs Q E hr h => ?_)
  · obtain ⟨D, l, ks, kvs, f, y, c, rfl, _⟩ := h
    rfl
  · obtain ⟨D, l, ks, kvs, f, y, c, rfl, hD, di, h64, hl, hyc0, hg, q⟩ := h
    refine ⟨_, pss_one (ps_for PassesOwn.never rfl (pi_list (pv 1)) (pg_name (i := 2) scDone.nd rfl (.inl rfl)) (pss_one (ps_if (pt_cmpR op_eq (pe_ix ix_tup (pv 2) pe_int (fun _ _ => rfl)) pe_str (nomark _)) (pss_one (ps_dput (hu_of hr) (pv 0) (pe_ix ix_tup (pv 2) pe_int (fun _ _ => rfl)) (pe_ix ix_tup (pv 2) pe_int (fun _ _ => rfl)) rfl)) (pss_one (ps_expr (pe_dpop2 (pv 0) (pe_ix ix_tup (pv 2) pe_int (fun _ _ => rfl)) pe_non ⟨rfl, rfl, rfl, rfl⟩)))))), ?_⟩
    have lD : l ≠ D := fun z => by
      rw [z, hD] at hl
      cases hl
    refine s_forL (K := K) (a := l) (xs := [y]) (ev_var rfl) (sq_of hl) (fun j σ2 H2 => ∃ y2 kvs2, σ2 = [some (.ref D), some (.ref l), y2] ∧ Bar D H H2 ∧ H2 D = some (.dK kvs2) ∧ DI ks kvs2 (appl f (([c].map chD).take j))) (fun H1 x1 => ⟨none, kvs, rfl, Bar.ex x1, x1 _ _ hD, di⟩) (fun j σ2 H2 _ ⟨_, _, _, b2, _⟩ => sq_of (b2 _ _ lD hl)) ?_ ?_
    · rintro j y' σ2 H2 hy ⟨y2, kvs2, rfl, b2, hD2, di2⟩
      have j0 : j = 0 := by
        have := (List.getElem?_eq_some_iff.mp hy).1
        simp at this
        exact this
      subst j0
      obtain rfl : y = y' := Option.some.inj hy
      have hyc := dp_bar hD b2 _ _ hyc0
      have hj : ([c].map chD).take (0 + 1) = ([c].map chD).take 0 ++ [chD c] := rfl
      rw [hj, appl_app]
      have hz : kvs2.length < sizeLine := sz_lt (by have := di2.len; omega)
      rcases ch_kind hg with ⟨kk, rfl, mk⟩ | ⟨kk, zz, rfl, mk⟩
      · obtain ⟨pa, u0, u1, rfl, ht, h0, h1⟩ := dpt2 hyc
        cases h0
        cases h1
        refine g_name (s_if (b := false) (et_is (et_test (ev_op (ev_ix0 (ev_var rfl) ht) ev_c (rv_eq rfl))) (by decide)) (fun e => by cases e) fun _ H4 x4 => ?_)
        have hD4 := x4 D _ hD2
        refine ⟨.ref D, rfl, D, rfl, .inl ⟨kvs2, .inl hD4⟩, ev_ix1 (ev_var rfl) (Evl.ex_t x4 ht) H4 (Ex.refl H4) _ fun H5 x5 => ⟨kvs2, .inl kk, x5 D _ hD4, rfl, fun v hv => ⟨_, _, rfl, (b2.trans (Bar.ex (x4.trans x5))).put, upd_same, di2.drop⟩, fun hv => ⟨_, _, rfl, b2.trans (Bar.ex (x4.trans x5)), x5 D _ hD4, di2.gone ?_⟩⟩⟩
        rw [di2.val] at hv
        exact Option.map_eq_none_iff.mp hv
      · obtain ⟨pa, u0, u1, u2, rfl, ht, h0, h1, h2⟩ := dpt3 hyc
        cases h0
        cases h1
        cases h2
        refine g_name (s_if (b := true) (et_is (et_test (ev_op (ev_ix0 (ev_var rfl) ht) ev_c (rv_eq rfl))) (by decide)) (fun _ H4 x4 => ?_) fun e => by cases e)
        have hD4 := x4 D _ hD2
        refine ev_ix2 (ev_var rfl) (Evl.ex_t x4 ht) H4 (Ex.refl H4) _ fun H5 x5 => ⟨.ref D, rfl, ev_ix1 (ev_var rfl) (Evl.ex_t (x4.trans x5) ht) H5 (Ex.refl H5) _ fun H6 x6 => ⟨D, _, rfl, DPut.k (k := .inl kk) (x6 D _ (x5 D _ hD4)) hz, ?_⟩⟩
        exact ⟨_, _, rfl, (b2.trans (Bar.ex ((x4.trans x5).trans x6))).put, upd_same, di2.put mk⟩
    · rintro σ2 H2 ⟨y2, kvs2, rfl, b2, hD2, di2⟩
      exact q kvs2 H2 b2 hD2 di2
end
section
variable {K : PySem.W.Frag} {H : Hp} {o rd kn pc ev ot : Addr} {life at' : Int} {pkv rkv kkv : List (Key × V)} {nv ov : List V}
theorem OwAt.gPlace (S : OwAt H o rd kn pc ev ot pkv nv life at' rkv kkv ov) : DGet H o (.str "place") (some (.int at')) := by
  rw [← okv_place life at' rd kn pc ev ot]
  exact DGet.k (k := .inr "place") S.ob
def chV (wd : Str) (kk : Int) : Option Int → List V
  | none => [.str wd, .int kk]
  | some i => [.str wd, .int kk, .int i]
/-- an event made by hand -/
theorem out_of {σ : L2.St} {pa : Addr} {wd : Str} {kk : Int} {z : Option Int} {Q : VK} (S : OwAt H o rd kn pc ev ot pkv nv life at' rkv kkv ov) (s0 : σ[0]? = some (some (.ref o))) (s6 : σ[6]? = some (some (.ref pa))) (ht : SqT K H pa (chV wd kk z))
    (q : ∀ t H', Ex H H' → H t = none → H' t = some (.tup [.int at', .str wd, .int kk, optV z]) → Q (.ref t) H') : (tOp (rCatA K) (tOp (rCatA K) (tTup (tCons (tDGet (tVar 0) (tC (.str "place"))) tNil)) (tSl (rSlA K) (tVar 6) tNoPart (tPart (tC (.int 2))))) (tTup (tCons (tOp (rIxT K) (tOp (rCatA K) (tVar 6) (tTup (tCons (tC .non) tNil))) (tC (.int 2))) tNil))) σ H Q := by
  refine ⟨.ref o, s0, o, .int at', rfl, S.gPlace, sz_of (by simp), fun t1 h1 => ?_⟩
  have x1 : Ex H (upd H t1 (.tup [.int at'])) := Ex.new h1
  have e1 : (upd H t1 (.tup [.int at'])) t1 = some (.tup [.int at']) := upd_same
  generalize upd H t1 (.tup [.int at']) = H1 at x1 e1
  refine ⟨.ref pa, s6, 2, rfl, pa, _, rfl, Evl.ex_t x1 ht, ?_⟩
  have fin : ∀ (t2 : Addr) (H2 : Hp), Ex H1 H2 → SqT K H2 t2 [.str wd, .int kk] → (rCatA K (.ref t1) (.ref t2) H2 fun x H3 => (tTup (tCons (tOp (rIxT K) (tOp (rCatA K) (tVar 6) (tTup (tCons (tC .non) tNil))) (tC (.int 2))) tNil)) σ H3 fun y H4 => rCatA K x y H4 Q) := by
    intro t2 H2 x2 e2
    refine ⟨t1, t2, _, _, rfl, rfl, st_of (x2 _ _ e1), e2, sz_of (by simp), fun y => (by cases y), fun _ y => (by cases y), fun _ _ t3 h3 => ?_⟩
    have x3 : Ex H2 (upd H2 t3 (.tup ([.int at'] ++ [.str wd, .int kk]))) := Ex.new h3
    have e3 : (upd H2 t3 (.tup ([.int at'] ++ [.str wd, .int kk]))) t3 = some (.tup [.int at', .str wd, .int kk]) := upd_same
    generalize upd H2 t3 (.tup ([.int at'] ++ [.str wd, .int kk])) = H3 at x3 e3
    refine ⟨.ref pa, s6, sz_of (by simp), fun t4 h4 => ?_⟩
    have x4 : Ex H3 (upd H3 t4 (.tup [.non])) := Ex.new h4
    have e4 : (upd H3 t4 (.tup [.non])) t4 = some (.tup [.non]) := upd_same
    generalize upd H3 t4 (.tup [.non]) = H4 at x4 e4
    have x14 := (x1.trans x2).trans (x3.trans x4)
    have go : ∀ (t5 : Addr) (H5 : Hp) (us : List V), Ex H4 H5 → H5 t5 = some (.tup us) → atI us 2 = some (optV z) → (rIxT K (.ref t5) (.int 2) H5 fun x H6 => [x].length ≤ sizeLine ∧ ∀ p, H6 p = none → rCatA K (.ref t3) (.ref p) (upd H6 p (.tup [x])) Q) := by
      intro t5 H5 us x5 e5 ea
      refine rv_ixT (st_of e5) ea H5 (Ex.refl H5) _ fun H6 x6 => ⟨sz_of (by simp), fun t6 h6 => ?_⟩
      have x7 : Ex H6 (upd H6 t6 (.tup [optV z])) := Ex.new h6
      have e7 : (upd H6 t6 (.tup [optV z])) t6 = some (.tup [optV z]) := upd_same
      generalize upd H6 t6 (.tup [optV z]) = H7 at x7 e7
      have x47 := (x5.trans x6).trans x7
      refine ⟨t3, t6, _, _, rfl, rfl, st_of ((x4.trans x47) _ _ e3), st_of e7, sz_of (by simp), fun y => (by cases y), fun _ y => (by cases y), fun _ _ t8 h8 => ?_⟩
      exact q t8 _ ((x14.trans x47).trans (Ex.new h8)) (fresh_back (x14.trans x47) h8) upd_same
    cases z with
    | none => exact ⟨pa, t4, _, _, rfl, rfl, Evl.ex_t x14 ht, st_of e4, sz_of (by simp [chV]), fun y => (by cases y), fun _ y => (by cases y), fun _ _ t5 h5 => go t5 _ _ (Ex.new h5) upd_same rfl⟩
    | some i => exact ⟨pa, t4, _, _, rfl, rfl, Evl.ex_t x14 ht, st_of e4, sz_of (by simp [chV]), fun y => (by cases y), fun _ y => (by cases y), fun _ _ t5 h5 => go t5 _ _ (Ex.new h5) upd_same rfl⟩
  cases z with
  | none => exact ⟨fun _ => fin pa H1 (Ex.refl H1) (Evl.ex_t x1 ht), fun y => absurd ⟨rfl, rfl⟩ y⟩
  | some i => exact ⟨fun y => absurd y.2 (by show ¬ ((2 : Nat) = 3); decide), fun _ t2 h2 => fin t2 _ (Ex.new h2) (st_of upd_same)⟩
end
abbrev sTt : Stmt := topS 65
theorem scTt : FnScope ["own", "entry", "number", "stretch", "way", "rows", "change"] ["own", "entry"] (defScope sTt) := ⟨rfl, rfl, rfl, by decide +kernel, rfl, by decide +kernel, by decide +kernel⟩
section
variable {K : PySem.W.Frag} {H H' : Hp} {o rd kn pc ev ot : Addr} {rkv kkv : List (Key × V)} {l : List (Pce × V)} {ov : List V} {m : TM} {X : Addr → Prop}
theorem opV_look : ∀ (l : List (Pce × V)) (n : Int), ((l.map (·.1)).find? (fun x => decide (x.num = n)) = none ∧ valV (opV l) (.inl n) = none) ∨ ∃ t ∈ l, t.1.num = n ∧ (l.map (·.1)).find? (fun x => decide (x.num = n)) = some t.1 ∧ valV (opV l) (.inl n) = some t.2
  | [], n => .inl ⟨rfl, rfl⟩
  | t :: l, n => by
    by_cases e : t.1.num = n
    · refine .inr ⟨t, List.mem_cons_self, e, ?_, ?_⟩
      · simp [List.find?_cons, e]
      · show valV ((.inl t.1.num, t.2) :: opV l) (.inl n) = _
        rw [e]
        exact valV_pos rfl
    · have h1 : ((t :: l).map (·.1)).find? (fun x => decide (x.num = n)) = (l.map (·.1)).find? (fun x => decide (x.num = n)) := by
        simp [List.find?_cons, e]
      have h2 : valV (opV (t :: l)) (.inl n) = valV (opV l) (.inl n) := by
        show valV ((.inl t.1.num, t.2) :: opV l) (.inl n) = _
        exact valV_neg fun z => e (Sum.inl.inj z)
      rw [h1, h2]
      rcases opV_look l n with h | ⟨t', mt, h⟩
      · exact .inl h
      · exact .inr ⟨t', List.mem_cons_of_mem _ mt, h⟩
theorem opV_val (S : OwB K H o rd kn pc ev ot rkv kkv l ov m) (n : Int) : (pcOf m n = none ∧ valV (opV l) (.inl n) = none) ∨ ∃ t ∈ l, t.1.num = n ∧ pcOf m n = some t.1 ∧ valV (opV l) (.inl n) = some t.2 := by
  unfold pcOf
  rw [← S.pl]
  exact opV_look l n
theorem num_one {pcs : List Pce} (nd : (pcs.map (·.num)).Nodup) {x y : Pce} (hx : x ∈ pcs) (hy : y ∈ pcs) (e : x.num = y.num) : x = y := by
  have pw := List.pairwise_map.mp nd
  exact Classical.byContradiction fun ne => pw_two (P := fun (a b : Pce) => a.num ≠ b.num) (fun a b h e => h e.symm) (l := pcs) pw x hx y hy ne e
theorem OwB.pmap {t : Pce × V} {g : Pce → Pce} {v' : V} (S : OwB K H o rd kn pc ev ot rkv kkv l ov m) (ht : t ∈ l) (hn : ∀ x, (g x).num = x.num) (hk : PcOk (g t.1)) (W' : OwAt H' o rd kn pc ev ot (putK (opV l) (.inl t.1.num) v') (m.nums.map V.int) m.life m.at' rkv kkv ov) (kt : Kt H H') (hv : Dp K H' v' (opD (g t.1))) : ∃ l2, OwB K H' o rd kn pc ev ot rkv kkv l2 ov { m with pcs := m.pcs.map (upP t.1.num g) } := by
  have mem : ∀ s ∈ l, s.1 ∈ m.pcs := fun s hs => by
    rw [← S.pl]
    exact List.mem_map.mpr ⟨s, hs, rfl⟩
  have num : ∀ x, (upP t.1.num g x).num = x.num := fun x => by
    unfold upP
    split
    · exact hn x
    · rfl
  have ea : putK (opV l) (.inl t.1.num) v' = opV (l.map fun s => (upP t.1.num g s.1, if s.1.num = t.1.num then v' else s.2)) := by
    have hs : (valV (opV l) (.inl t.1.num)).isSome = true := valV_memI.mp (List.mem_map.mpr ⟨(.inl t.1.num, t.2), List.mem_map.mpr ⟨t, ht, rfl⟩, rfl⟩)
    unfold putK
    rw [if_pos (by rw [valV_any]; exact hs)]
    unfold opV
    rw [List.map_map, List.map_map]
    refine List.map_congr_left fun s _ => ?_
    show (if (Sum.inl s.1.num : Key) = .inl t.1.num then ((Sum.inl s.1.num : Key), v') else (.inl s.1.num, s.2)) = (.inl (upP t.1.num g s.1).num, if s.1.num = t.1.num then v' else s.2)
    rw [num]
    by_cases z : s.1.num = t.1.num
    · rw [if_pos (by rw [z]), if_pos z]
    · rw [if_neg (fun y => z (Sum.inl.inj y)), if_neg z]
  rw [ea] at W'
  refine ⟨_, W', S.di, S.mi, ?_, fun s hs => ?_, ?_, fun x hx => ?_, kt.dps S.eg S.dv, S.eg, fun x hx => by
    obtain ⟨y, hy, rfl⟩ := List.mem_map.mp hx
    rw [num]
    exact S.pn y hy⟩
  · show (l.map _).map _ = m.pcs.map (upP t.1.num g)
    rw [List.map_map, ← S.pl, List.map_map]
    rfl
  · obtain ⟨u, hu, rfl⟩ := List.mem_map.mp hs
    show Dp K H' (if u.1.num = t.1.num then v' else u.2) (opD (upP t.1.num g u.1))
    by_cases z : u.1.num = t.1.num
    · rw [num_one S.pd (mem u hu) (mem t ht) z, if_pos rfl]
      unfold upP
      rw [if_pos rfl]
      exact hv
    · rw [if_neg z]
      unfold upP
      rw [if_neg z]
      exact kt.dp 3 _ _ (nl_op _) (S.pc u hu)
  · show ((m.pcs.map (upP t.1.num g)).map (·.num)).Nodup
    rw [List.map_map]
    have : (fun x : Pce => x.num) ∘ upP t.1.num g = fun x => x.num := funext num
    rw [this]
    exact S.pd
  · obtain ⟨y, hy, rfl⟩ := List.mem_map.mp hx
    unfold upP
    split
    · rename_i en
      rw [num_one S.pd hy (mem t ht) en]
      exact hk
    · exact S.po y hy
theorem opV_drop (l : List (Pce × V)) (n : Int) : dropK (opV l) (.inl n) = opV (l.filter fun t => !decide (t.1.num = n)) := by
  unfold dropK opV
  rw [List.filter_map]
  congr 1
  refine List.filter_congr fun t _ => ?_
  show decide ((Sum.inl t.1.num : Key) ≠ .inl n) = !decide (t.1.num = n)
  by_cases z : t.1.num = n
  · rw [decide_eq_true z, z]
    simp
  · rw [decide_eq_false z]
    exact decide_eq_true fun y => z (Sum.inl.inj y)
/-- a piece forgotten, and what else is changed -/
theorem OwB.pdel {rkv' kkv' : List (Key × V)} {ov' : List V} {f' : Kn} {ev' : List PyData} (S : OwB K H o rd kn pc ev ot rkv kkv l ov m) (n : Int) (W' : OwAt H' o rd kn pc ev ot (dropK (opV l) (.inl n)) (m.nums.map V.int) m.life m.at' rkv' kkv' ov') (kt : Kt H H') (di : DI allK rkv' (fun k => (f' k).join)) (mi : MI allK kkv' (fun k => (f' k).isSome = true)) (dv : DpAll K H' ov' ev') (eg : ∀ e ∈ ev', nl 1 e = true) : ∃ l2, OwB K H' o rd kn pc ev ot rkv' kkv' l2 ov' { m with f := f', ev := ev', pcs := m.pcs.filter fun x => !decide (x.num = n) } := by
  rw [opV_drop] at W'
  have ep : (l.filter fun t => !decide (t.1.num = n)).map (·.1) = m.pcs.filter fun x => !decide (x.num = n) := by
    rw [← S.pl, List.filter_map]
    rfl
  exact ⟨_, W', di, mi, ep, fun t ht => kt.dp 3 _ _ (nl_op _) (S.pc t (List.mem_filter.mp ht).1), S.pd.sublist (List.filter_sublist.map _), fun x hx => S.po x (List.mem_filter.mp hx).1, dv, eg, fun x hx => S.pn x (List.mem_filter.mp hx).1⟩
theorem OwB.inc (S : OwB K H o rd kn pc ev ot rkv kkv l ov m) : OwB K (upd H o (.dK (okL m.life (m.at' + 1) rd kn pc ev ot))) o rd kn pc ev ot rkv kkv l ov (onT m) :=
  ⟨S.at'.put_o, S.di, S.mi, S.pl, fun t mt => S.at'.kt_o.dp 3 _ _ (nl_op _) (S.pc t mt), S.pd, S.po, S.at'.kt_o.dps S.eg S.dv, S.eg, S.pn⟩
theorem kset_join (g : Kn) (a : Int) (b : Option Int) : (fun k => (kset g a b k).join) = fset (fun k => (g k).join) a b := by
  funext k
  unfold kset fset
  by_cases z : k = a
  · rw [if_pos z, if_pos z]
    rfl
  · rw [if_neg z, if_neg z]
theorem kset_some (g : Kn) (a : Int) (b : Option Int) (k : Int) : (kset g a b k).isSome = true ↔ (g k).isSome = true ∨ k = a := by
  unfold kset
  by_cases z : k = a
  · rw [if_pos z]
    exact ⟨fun _ => .inr z, fun _ => rfl⟩
  · rw [if_neg z]
    exact ⟨.inl, fun y => y.elim id fun e => absurd e z⟩
end
def spTt (K : PySem.W.Frag) : Sp := fun vs H Q _ => ∃ (o : Addr) (m : TM) (X : Addr → Prop) (e : V) (d : PyData), vs = [.ref o, e] ∧ OwM K H o m X ∧ Dp K H e d ∧ goodEn allKs d = true ∧ (chsD d).length ≤ 100 ∧ TFew m ∧
  (tTake m d = none → ∀ t H', Ex H H' → H' t = some (.tup [.str "asked Waits+", .int (numOf d)]) → Q (.ref t) H') ∧ (∀ m', tTake m d = some m' → ∀ t H', OOut K H o X m' H' → H' t = some (.tup [.str "", .non]) → Q (.ref t) H')
section
variable {P : Program} {w : World} {K : PySem.W.Frag} {mg : Str → Option Value} {base : Heap}
theorem off_of {o rd kn pc ev ot : Addr} {X : Addr → Prop} {H H' : Hp} (fx : ∀ a, X a ↔ a ∈ [o, rd, kn, pc, ev, ot]) (h : ∀ a u, a ∉ [o, rd, kn, pc, ev, ot] → H a = some u → H' a = some u) : Off X H H' := fun a u n e => h a u (fun z => n ((fx a).mpr z)) e
theorem off_4 {o rd kn pc ev ot : Addr} {H H' : Hp} (h : Off4 o rd kn ot H H') : ∀ a u, a ∉ [o, rd, kn, pc, ev, ot] → H a = some u → H' a = some u := fun a u n e => h a u (fun z => n (by simp [z])) (fun z => n (by simp [z])) (fun z => n (by simp [z])) (fun z => n (by simp [z])) e
set_option maxHeartbeats 4000000 in
theorem ok_tt {f : Addr} {fd : FuncData} {kDn kOc k : Nat} (F : Fun K "_law_taker_takes" "_law_taker_takes" sTt f fd) (dDn : Own P w K mg base "_law_done" ["rows", "changes"] kDn (spDoneL K)) (hDn : kDn ≤ k) (dOc : Own P w K mg base "_law_taker_copies" ["own", "stretch", "rows"] kOc (spOc K)) (hOc : kOc ≤ k) : FnOk P w K mg base CX0 (k + 1) f fd ["own", "entry"] (spTt K) := by
  refine F.ok scTt (fun vs H Q E h => ?_) (fun cdv A outer s H vs Q E hr h => ?_)
  · obtain ⟨o, m, X, e, d, rfl, _⟩ := h
    rfl
  · obtain ⟨o, m, X, e, dd, rfl, S, de, hgd, cl, few, q1, q2⟩ := h
    refine ⟨_, (pss_cons (ps_if (pt_cmpR op_ne (pe_ix ix_tup (pv 1) pe_int (fun _ _ => rfl)) pe_str (nomark _)) (pss_cons (ps_set (i := 2) scTt.nd rfl (.inl rfl) (pe_ix ix_tup (pv 1) pe_int (fun _ _ => rfl)))
      (pss_cons (ps_if (PW.pt (pw_and (pt_cmpR op_eq (pe_ix ix_tup (pv 1) pe_int (fun _ _ => rfl)) (pe_dget (hu_of hr) (pv 0) pe_str (fun _ _ => rfl)) (nomark _)) (pw_and1 (pt_cmp (pc_din (hu_of hr) (pv 2) (pe_dget (hu_of hr) (pv 0) pe_str (fun _ _ => rfl))))))) (pss_cons (ps_asg (pe_dget (hu_of hr) (pe_dget (hu_of hr) (pv 0) pe_str (fun _ _ => rfl)) (pv 2) (fun _ _ => rfl)) (pg_tup rfl (pgs_cons (pg_name (i := 3) scTt.nd rfl (.inl rfl)) (pgs_cons (pg_name (i := 4) scTt.nd rfl (.inl rfl)) (pgs_cons (pg_name (i := 5) scTt.nd rfl (.inl rfl)) pgs_nil)))))
      (pss_one (ps_if (pt_cmpR op_eq (pe_ix ix_tup (pv 1) pe_int (fun _ _ => rfl)) pe_str (nomark _)) (pss_one (ps_dput (hu_of hr) (pe_dget (hu_of hr) (pv 0) pe_str (fun _ _ => rfl)) (pv 2) (pe_tup (pa_cons (pv 3) (pa_cons pe_bl (pa_cons (pv 5) pa_nil)))) rfl)) (pss_cons (ps_if (PW.pt (pw_and (pt_val (pv 4)) (pw_and1 (pt_cmpR op_isN1 (pv 5) pe_non (nomark _))))) (pss_one (ps_ret (pe_tup (pa_cons pe_str (pa_cons (pv 2) pa_nil))))) pss_nil)
      (pss_cons (ps_expr (pe_dpop1 (pe_dget (hu_of hr) (pv 0) pe_str (fun _ _ => rfl)) (pv 2) ⟨rfl, rfl, rfl, rfl⟩))
      (pss_one (ps_if (pt_val (pv 4)) (pss_one (ps_expr (pe_own dOc hr hOc (by rfl) (pa_cons (pv 0) (pa_cons (pv 3) (pa_cons (pv 5) pa_nil)))))) pss_nil))))))) pss_nil)
      (pss_cons (ps_daug (hu_of hr) (pv 0) pe_str pe_int in_add (fun _ _ _ => rfl))
      (pss_one (ps_ret (pe_tup (pa_cons pe_str (pa_cons pe_non pa_nil)))))))) pss_nil)
      (pss_cons (ps_daug (hu_of hr) (pv 0) pe_str pe_int in_add (fun _ _ _ => rfl))
      (pss_cons (ps_for PassesOwn.never rfl (pi_tup (pe_ix ix_tup (pv 1) pe_int (fun _ _ => rfl))) (pg_name (i := 6) scTt.nd rfl (.inl rfl)) (pss_cons (ps_expr (pe_own dDn hr hDn (by rfl) (pa_cons (pe_dget (hu_of hr) (pv 0) pe_str (fun _ _ => rfl)) (pa_cons (pe_lst (pa_cons (pv 6) pa_nil)) pa_nil)))) (pss_cons (ps_dput (hu_of hr) (pe_dget (hu_of hr) (pv 0) pe_str (fun _ _ => rfl)) (pe_ix ix_tup (pv 6) pe_int (fun _ _ => rfl)) pe_bl rfl) (pss_one (ps_expr (pe_bm PySem.F.plainAttrs_list PySem.F.slot_list_append PySem.F.type_list_append mt_append (pe_dget (hu_of hr) (pv 0) pe_str (fun _ _ => rfl)) (pa_cons (pe_op op_catA (pe_op op_catA (pe_tup (pa_cons (pe_dget (hu_of hr) (pv 0) pe_str (fun _ _ => rfl)) pa_nil)) (pe_slice sl_tupA (pv 6) po_none (po_some pe_int))) (pe_tup (pa_cons (pe_ix ix_tup (pe_op op_catA (pv 6) (pe_tup (pa_cons pe_non pa_nil))) pe_int (fun _ _ => rfl)) pa_nil))) pa_nil)))))))
      (pss_one (ps_ret (pe_tup (pa_cons pe_str (pa_cons pe_non pa_nil)))))))), ?_⟩
    have el := few.ev
    obtain ⟨rd, kn, pc, ev, ot, rkv, kkv, l, ov, B, fx⟩ := S
    have N := ow_n B.at'.nn
    rcases en_kind hgd with ⟨cs, rfl, hcs⟩ | ⟨wd, lf, n, rfl, hns⟩
    · obtain ⟨ea, u0, u1, rfl, he, h0, h1⟩ := dpt2 de
      cases h0
      cases h1 with
      | @tup qa us _ hs hA =>
        refine s_seq (s_if (b := false) (et_is (et_test (ev_op (ev_ix0 (ev_var rfl) he) ev_c (rv_ne rfl))) (by decide)) (fun z => by cases z) fun _ H1 x1 => s_next ?_)
        have B1 := B.ex x1
        refine s_seq (s_daug (k := .inr "place") (ev_var rfl) ev_c ev_c B1.at'.ob (okv_place _ _ _ _ _ _ _) (by show 7 < 40000; decide) fun H2 x2 => ?_)
        rw [okL_put]
        have B2 := (B1.ex x2).inc
        have k2 : Kt H _ := (Kt.ex (x1.trans x2)).trans ((B1.ex x2).at'.kt_o (u := .dK (okL m.life (m.at' + 1) rd kn pc ev ot)))
        have o2 : ∀ a u, a ∉ [o, rd, kn, pc, ev, ot] → H a = some u → (upd H2 o (.dK (okL m.life (m.at' + 1) rd kn pc ev ot))) a = some u := fun a u na h => by
          rw [upd_ne fun z => na (by simp [z])]
          exact x2 _ _ (x1 _ _ h)
        generalize upd H2 o (.dK (okL m.life (m.at' + 1) rd kn pc ev ot)) = H3 at B2 k2 o2 ⊢
        have ul := dps_len hA
        refine s_seq (s_forT (K := K) (a := qa) (xs := us) (ev_ix1 (ev_var rfl) (k2.t he)) (k2.t hs) (fun j σ' G => ∃ y6 rkv' kkv' ov', σ' = [some (.ref o), some (.ref ea), none, none, none, none, y6] ∧ Off4 o rd kn ot H3 G ∧ Kt H3 G ∧ OwAt G o rd kn pc ev ot (opV l) (m.nums.map V.int) m.life (m.at' + 1) rkv' kkv' ov' ∧ DI allK rkv' (fun k => (learnCs m.f ((cs.take j).map chD) k).join) ∧ MI allK kkv' (fun k => (learnCs m.f ((cs.take j).map chD) k).isSome = true) ∧ DpAll K G ov' (m.ev ++ (cs.take j).map (evD m.at'))) (fun G x => ⟨none, rkv, kkv, ov, rfl, fun a u _ _ _ _ h => x a u h, Kt.ex x, B2.at'.ex x, B2.di, B2.mi, by rw [List.take_zero, List.map_nil, List.append_nil]; exact dps_same x _ _ B2.dv⟩) (fun j σ' G _ ⟨_, _, _, _, _, _, kt, _⟩ => (k2.trans kt).t hs) (fun j x σ' G hx p' => ?_) (fun σ' G p' => ?_))
        · obtain ⟨y6, rkv', kkv', ov', rfl, of', kt', W', di', mi', dE'⟩ := p'
          have kH := k2.trans kt'
          obtain ⟨c, hc, hxc⟩ := dps_at (kH.dps (n := 1) (fun c mc => K27.nl_ch (hcs c mc)) hA) hx
          have hgc := hcs c (List.mem_of_getElem? hc)
          have tk : cs.take (j + 1) = cs.take j ++ [c] := take_rows cs hc
          have nlE : ∀ d ∈ m.ev ++ (cs.take j).map (evD m.at'), nl 1 d = true := fun d md => by
            rcases List.mem_append.mp md with md | md
            · exact B.eg d md
            · obtain ⟨c', _, rfl⟩ := List.mem_map.mp md
              exact nl_ev _ _
          have cl2 : cs.length ≤ 100 := cl
          have ovl : ov'.length ≤ 5200 := by
            rw [dps_len dE', List.length_append, List.length_map, List.length_take]
            omega
          refine g_name ?_
          dsimp only
          refine s_seq ?_
          refine W'.e_rows (i := 0) rfl G (Ex.refl G) _ fun G0 x0 => ⟨x, rfl, sz_of (by simp), fun ll hl => ?_⟩
          have xl := x0.trans (Ex.new hl (o := .lst [x]))
          have Wl := W'.ex xl
          refine ⟨rd, ll, allK, rkv', _, x, c, rfl, Wl.hr, di', (by rw [allKs_len]; exact Nat.le_refl _), upd_same, dp_same xl _ _ hxc, hgc, fun rkv2 G3 b3 hr3 di3 => ?_⟩
          have W3 : OwAt G3 o rd kn pc ev ot (opV l) (m.nums.map V.int) m.life (m.at' + 1) rkv2 kkv' ov' := ⟨b3 _ _ N.n01 Wl.ob, hr3, b3 _ _ N.n12.symm Wl.hk, b3 _ _ N.n13.symm Wl.hp, b3 _ _ N.n14.symm Wl.he, b3 _ _ N.n15.symm Wl.ho, Wl.n1, Wl.n2, Wl.n3, Wl.n4, Wl.n5, Wl.n6, Wl.nn⟩
          have k3 : Kt G G3 := (Kt.ex xl).trans (Kt.barD Wl.hr b3)
          have of3 : Off4 o rd kn ot H3 G3 := fun a u n1 n2 n3 n4 h => b3 a u n2 (xl a u (of' a u n1 n2 n3 n4 h))
          have hxc3 := k3.dp 1 _ _ (K27.nl_ch hgc) hxc
          have dE3 := k3.dps nlE dE'
          try dsimp only
          have key : ∃ (pa : Addr) (wd : Str) (kk : Int) (z : Option Int), x = .ref pa ∧ SqT K G3 pa (chV wd kk z) ∧ chD c = (kk, z) ∧ wd = (if z.isSome then "put" else "drop" : Str) ∧ kk ∈ allKs := by
            rcases ch_kind hgc with ⟨kk, rfl, mk⟩ | ⟨kk, zz, rfl, mk⟩
            · obtain ⟨pa, u0, u1, rfl, ht, h0, h1⟩ := dpt2 hxc3
              cases h0
              cases h1
              exact ⟨pa, _, kk, none, rfl, ht, rfl, rfl, mk⟩
            · obtain ⟨pa, u0, u1, u2, rfl, ht, h0, h1, h2⟩ := dpt3 hxc3
              cases h0
              cases h1
              cases h2
              exact ⟨pa, _, kk, some zz, rfl, ht, rfl, rfl, mk⟩
          obtain ⟨pa, wd, kk, z, rfl, ht, ec, ew, mk⟩ := key
          have ix1 : ∀ {G : Hp}, SqT K G pa (chV wd kk z) → Ev (tOp (rIxT K) (tVar 6) (tC (.int 1))) [some (.ref o), some (.ref ea), none, none, none, none, some (.ref pa)] G (.int kk) := fun {G} h => by
            cases z with
            | none => exact ev_ix1 (ev_var rfl) h
            | some i => exact ev_ix1 (ev_var rfl) h
          have kl := mi'.len
          rw [allKs_len] at kl
          refine s_seq (s_dput (k := .inl kk) ev_c (W3.e_known rfl) (ix1 ht) W3.hk (by omega) fun G4 x4 => ?_)
          have W4 := W3.ex x4
          have W5 := W4.put_kn (kkv2 := putK kkv' (.inl kk) (.bl true))
          have k5 := (Kt.ex x4).trans (W4.kt_kn (u := .dK (putK kkv' (.inl kk) (.bl true))))
          have of5 : Off4 o rd kn ot H3 (upd G4 kn (.dK (putK kkv' (.inl kk) (.bl true)))) := fun a u n1 n2 n3 n4 h => by
            rw [upd_ne n3]
            exact x4 a u (of3 a u n1 n2 n3 n4 h)
          have ht5 := k5.t ht
          have dE5 := k5.dps nlE dE3
          generalize upd G4 kn (.dK (putK kkv' (.inl kk) (.bl true))) = G5 at W5 k5 ht5 dE5 of5 ⊢
          have mi5 := mi'.put (v := .bl true) mk
          refine W5.e_out (i := 0) rfl G5 (Ex.refl G5) _ fun G5' x5' => ⟨.inl ⟨rfl, ov', sq_of (x5' _ _ W5.ho)⟩, ?_⟩
          refine out_of (K := K) (W5.ex x5') rfl rfl (Evl.ex_t x5' ht5) fun t G6 x6' _ ht6 => ⟨ot, ov', .ref t, rfl, rfl, x6' _ _ (x5' _ _ W5.ho), sz_lt (by omega), ?_⟩
          have x6 := x5'.trans x6'
          have W6 := W5.ex x6
          have k6 := (Kt.ex x6).trans (W6.kt_ot (u := .lst (ov' ++ [.ref t])))
          have k6' := W6.kt_ot (u := .lst (ov' ++ [.ref t]))
          have dEv : Dp K G6 (.ref t) (evD m.at' c) := by
            unfold evD
            rw [ec, ew] at *
            cases z with
            | none => exact .tup (st_of ht6) (.cons (.int _) (.cons (.str _) (.cons (.int _) (.cons .non .nil))))
            | some i => exact .tup (st_of ht6) (.cons (.int _) (.cons (.str _) (.cons (.int _) (.cons (.int i) .nil))))
          have lc : learnCs m.f ((cs.take (j + 1)).map chD) = kset (learnCs m.f ((cs.take j).map chD)) kk z := by
            rw [tk, List.map_append, learnCs_app, List.map_cons, List.map_nil, ec]
            rfl
          refine ⟨_, rkv2, _, ov' ++ [.ref t], rfl, fun a u n1 n2 n3 n4 h => by rw [upd_ne n4]; exact x6 a u (of5 a u n1 n2 n3 n4 h), ((kt'.trans k3).trans k5).trans k6, W6.put_ot, ?_, mi5.iff fun k => ?_, ?_⟩
          · rw [lc, kset_join]
            rw [ec] at di3
            exact di3
          · rw [lc, kset_some]
          · rw [tk, List.map_append, ← List.append_assoc]
            exact dps_app (k6.dps nlE dE5) (.cons (k6'.dp 1 _ _ (nl_ev _ _) dEv) .nil)
        · obtain ⟨y6, rkv', kkv', ov', rfl, of', kt', W', di', mi', dE'⟩ := p'
          rw [ul, List.take_length] at di' mi' dE'
          refine ⟨sz_of (by simp), fun t ht => ?_⟩
          have xt := Ex.new ht (o := .tup [.str "", .non])
          refine q2 _ rfl t _ ⟨⟨rd, kn, pc, ev, ot, rkv', kkv', l, ov', ⟨W'.ex xt, di', mi', B.pl, fun t' mt => ((k2.trans kt').trans (Kt.ex xt)).dp 3 _ _ (nl_op _) (B.pc t' mt), B.pd, B.po, dps_same xt _ _ dE', fun e me => ?_, B.pn⟩, fx⟩, off_of fx fun a u na h => xt _ _ (off_4 of' a u na (o2 a u na h))⟩ upd_same
          rcases List.mem_append.mp me with me | me
          · exact B.eg e me
          · obtain ⟨c', _, rfl⟩ := List.mem_map.mp me
            exact nl_ev _ _
    · obtain ⟨ea, u0, u1, u2, rfl, he, h0, h1, h2⟩ := dpt3 de
      cases h0
      cases h1
      cases h2
      refine s_seq (s_if (b := true) (et_is (et_test (ev_op (ev_ix0 (ev_var rfl) he) ev_c (rv_ne rfl))) (by rw [decide_eq_false fun z => hns (V.str.inj z)]; rfl)) (fun _ H1 x1 => ?_) fun z => by cases z)
      have he1 := Evl.ex_t x1 he
      refine q_asg (ev_ix2 (ev_var rfl) he1) fun H2 x2 => ?_
      try dsimp only
      have x12 := x1.trans x2
      have B2 := B.ex x12
      have he2 := Evl.ex_t x12 he
      -- behind the mark
      have fin : ∀ {v3 v4 v5 : Option V} {rkv' kkv' : List (Key × V)} {l' : List (Pce × V)} {ov' : List V} {m1 : TM} {G : Hp}, OwB K G o rd kn pc ev ot rkv' kkv' l' ov' m1 → (∀ a u, a ∉ [o, rd, kn, pc, ev, ot] → H a = some u → G a = some u) → tTake m (.tuple [.str wd, .int lf, .int n]) = some (onT m1) → ∀ {D : Ends}, (∀ t H', D.rt (.ref t) H' = Q (.ref t) H') → tSeq (sDAug (tVar 0) (tC (.str "place")) (tC (.int 1)) rAdd) (tRet (tTup (tCons (tC (.str "")) (tCons (tC .non) tNil)))) D [some (.ref o), some (.ref ea), some (.int n), v3, v4, v5, none] G := fun {v3 v4 v5 rkv' kkv' l' ov' m1 G} BG oG e D hD => by
        refine s_seq (s_daug (k := .inr "place") (ev_var rfl) ev_c ev_c BG.at'.ob (okv_place _ _ _ _ _ _ _) (by show 7 < 40000; decide) fun G2 xg => ?_)
        rw [okL_put]
        have BI := (BG.ex xg).inc
        refine ⟨sz_of (by simp), fun t ht => ?_⟩
        rw [hD]
        have xt := Ex.new ht (o := .tup [.str "", .non])
        exact q2 _ e t _ ⟨⟨rd, kn, pc, ev, ot, rkv', kkv', l', ov', BI.ex xt, fx⟩, off_of fx fun a u na h => xt _ _ (by rw [upd_ne fun z => na (by simp [z])]; exact xg _ _ (oG a u na h))⟩ upd_same
      have oH2 : ∀ a u, a ∉ [o, rd, kn, pc, ev, ot] → H a = some u → H2 a = some u := fun a u _ h => x12 _ _ h
      have t1 : EvT (tTest (tOp rEq (tOp (rIxT K) (tVar 1) (tC (.int 1))) (tDGet (tVar 0) (tC (.str "life"))))) [some (.ref o), some (.ref ea), some (.int n), none, none, none, none] H2 (decide (lf = m.life)) := et_is (et_test (ev_op (ev_ix1 (ev_var rfl) he2) (B2.at'.e_life rfl) (rv_eq rfl))) (by
        by_cases z : lf = m.life
        · rw [z]
          simp
        · rw [decide_eq_false z]
          exact decide_eq_false fun y => z (V.int.inj y))
      have t2 : EvT (tB (tDIn (tVar 2) (tDGet (tVar 0) (tC (.str "pieces"))))) [some (.ref o), some (.ref ea), some (.int n), none, none, none, none] H2 (valV (opV l) (.inl n)).isSome := fun G x Q' q' => ⟨.int n, rfl, B2.at'.e_pieces (i := 0) rfl G x _ fun G2 x2 => ⟨pc, _, rfl, DGet.k (k := .inl n) ((x.trans x2) _ _ B2.at'.hp), _, rfl, q' G2 x2⟩⟩
      by_cases hl : lf = m.life
      · rcases opV_val B2 n with ⟨hx, hv⟩ | ⟨t, mt, en, hx, hv⟩
        · refine s_seq (s_if (b := false) (et_is (et_and (et_is t1 (decide_eq_true hl)) fun _ => t2) (by rw [hv]; rfl)) (fun z => by cases z) fun _ H3 x3 => s_next ?_)
          exact fin (B2.ex x3) (fun a u na h => x3 _ _ (oH2 a u na h)) (by show (if lf = m.life then _ else _) = _; rw [if_pos hl, hx]) (fun _ _ => rfl)
        · refine s_seq (s_if (b := true) (et_is (et_and (et_is t1 (decide_eq_true hl)) fun _ => t2) (by rw [hv]; rfl)) (fun _ H3 x3 => ?_) fun z => by cases z)
          have B3 := B2.ex x3
          have et : tTake m (.tuple [.str wd, .int lf, .int n]) = (tkMark m wd t.1).map onT := by
            show (if lf = m.life then _ else _) = _
            rw [if_pos hl, hx]
          subst en
          have po : PcOk t.1 := B.po t.1 (by rw [← B.pl]; exact List.mem_map.mpr ⟨t, mt, rfl⟩)
          obtain ⟨ta, w0, w1, w2, e2, hta, d0, d1, d2⟩ := dpt3 (show Dp K H3 t.2 (.tuple [.tuple [.int t.1.lo, .int t.1.hi], .bool t.1.uw, camD t.1.came]) from B3.pc t mt)
          obtain ⟨sa, z0, z1, rfl, hsa, g0, g1⟩ := dpt2 d0
          cases g0
          cases g1
          cases d1
          rw [e2] at hv
          refine s_seq ((ev_dgetI (B3.at'.e_pieces rfl) (ev_var rfl) B3.at'.hp hv) H3 (Ex.refl H3) _ fun H4 x4 => ?_)
          refine ⟨ta, _, rfl, Evl.ex_t x4 hta, rfl, _, _, rfl, _, _, rfl, _, _, rfl, rfl, ?_⟩
          try dsimp only
          have B4 := B3.ex x4
          have he4 := Evl.ex_t (x3.trans x4) he2
          have hsa4 := Evl.ex_t x4 hsa
          have d24 := dp_same x4 _ _ d2
          have oH4 : ∀ a u, a ∉ [o, rd, kn, pc, ev, ot] → H a = some u → H4 a = some u := fun a u na h => x4 _ _ (x3 _ _ (oH2 a u na h))
          have ll : (opV l).length ≤ 10000 := by
            unfold opV
            rw [List.length_map, ← List.length_map (f := (·.1)), B.pl]
            exact few.pl
          by_cases hw : wd = "low"
          · subst hw
            refine s_if (b := true) (et_is (et_test (ev_op (ev_ix0 (ev_var rfl) he4) ev_c (rv_eq rfl))) (by decide)) (fun _ H5 x5 => ?_) fun z => by cases z
            have B5 := B4.ex x5
            refine ⟨_, rfl, _, rfl, sz_of (by simp), fun t2' n2 => ?_⟩
            have xt := Ex.new n2 (o := .tup [.ref sa, .bl true, w2])
            have ht2 : (upd H5 t2' (.tup [.ref sa, .bl true, w2])) t2' = some (.tup [.ref sa, .bl true, w2]) := upd_same
            generalize upd H5 t2' (.tup [.ref sa, .bl true, w2]) = H6 at xt ht2 ⊢
            have B6 := B5.ex xt
            refine B6.at'.e_pieces (i := 0) rfl H6 (Ex.refl H6) _ fun H7 x7 => ⟨_, rfl, pc, _, rfl, DPut.k (k := .inl t.1.num) (x7 _ _ B6.at'.hp) (sz_lt (by omega)), s_next ?_⟩
            have B7 := B6.ex x7
            have kp := B7.at'.kt_pc (u := .dK (putK (opV l) (.inl t.1.num) (.ref t2')))
            have x47 := (x5.trans xt).trans x7
            obtain ⟨l2, BB⟩ := B7.pmap (g := wayP) mt (fun x => rfl) ⟨po.a, po.b, po.c, po.r⟩ B7.at'.put_pc kp (kp.dp 3 _ _ (nl_op _) (show Dp K H7 (.ref t2') (.tuple [.tuple [.int t.1.lo, .int t.1.hi], .bool true, camD t.1.came]) from .tup (st_of (x7 _ _ ht2)) (.cons (.tup (Evl.ex_t x47 hsa4) (.cons (.int _) (.cons (.int _) .nil))) (.cons (.bl _) (.cons (dp_same x47 _ _ d24) .nil)))))
            exact fin BB (fun a u na h => by rw [upd_ne fun z => na (by simp [z])]; exact x47 _ _ (oH4 a u na h)) (by rw [et]; unfold tkMark; rw [if_pos rfl]; rfl) (fun _ _ => rfl)
          · have lm : tkMark m wd t.1 = (if t.1.uw = true then (match t.1.came with
                | none => none
                | some rs => some { m with f := learnP m.f t.1.lo t.1.hi rs, ev := m.ev ++ (copiesOf rs (newKeys m.f t.1.lo t.1.hi)).map (cpD m.at'), pcs := m.pcs.filter fun y => !decide (y.num = t.1.num) })
              else some { m with pcs := m.pcs.filter fun y => !decide (y.num = t.1.num) }) := by unfold tkMark; exact if_neg hw
            refine s_if (b := false) (et_is (et_test (ev_op (ev_ix0 (ev_var rfl) he4) ev_c (rv_eq rfl))) (decide_eq_false fun z => hw (V.str.inj z))) (fun z => by cases z) fun _ H5 x5 => ?_
            have B5 := B4.ex x5
            have oH5 : ∀ a u, a ∉ [o, rd, kn, pc, ev, ot] → H a = some u → H5 a = some u := fun a u na h => x5 _ _ (oH4 a u na h)
            have tw : ∀ {G : Hp}, EvT (tB (tVar 4)) [some (.ref o), some (.ref ea), some (.int t.1.num), some (.ref sa), some (.bl t.1.uw), some w2, none] G t.1.uw := fun {G} => et_B (ev_var rfl)
            have ti : ∀ {G : Hp}, EvT (tTest (tOp rIsN (tVar 5) (tC .non))) [some (.ref o), some (.ref ea), some (.int t.1.num), some (.ref sa), some (.bl t.1.uw), some w2, none] G (decide (w2 = .non)) := fun {G} => et_test (ev_op (ev_var rfl) ev_c fun G _ Q' q' => ⟨rfl, q' G (Ex.refl G)⟩)
            cases huw : t.1.uw with
            | false =>
              rw [huw] at tw lm
              rw [if_neg Bool.false_ne_true] at lm
              refine s_seq (s_if (b := false) (et_is (et_and (b := false) tw fun z => by cases z) rfl) (fun z => by cases z) fun _ H6 x6 => s_next ?_)
              have B6 := B5.ex x6
              refine s_seq (s_dpop (k := .inl t.1.num) (B6.at'.e_pieces rfl) (ev_var rfl) B6.at'.hp hv fun H7 x7 => ?_)
              have B7 := B6.ex x7
              have kp := B7.at'.kt_pc (u := .dK (dropK (opV l) (.inl t.1.num)))
              obtain ⟨l2, BB⟩ := B7.pdel t.1.num B7.at'.put_pc kp B7.di B7.mi (kp.dps B7.eg B7.dv) B7.eg
              refine s_if (b := false) tw (fun z => by cases z) fun _ H8 x8 => s_next (s_next ?_)
              exact fin (BB.ex x8) (fun a u na h => x8 _ _ (by rw [upd_ne fun z => na (by simp [z])]; exact x7 _ _ (x6 _ _ (oH5 a u na h)))) (by rw [et, lm]; rfl) (fun _ _ => rfl)
            | true =>
              rw [huw] at tw lm
              rw [if_pos rfl] at lm
              cases hcm : t.1.came with
              | none =>
                rw [hcm] at d24 lm
                cases d24
                refine s_seq (s_if (b := true) (et_is (et_and tw fun _ => ti) (by simp)) (fun _ H6 x6 => ?_) fun z => by cases z)
                exact ⟨_, rfl, sz_of (by simp), fun t2' n2 => q1 (by rw [et, lm]; rfl) t2' _ ((((x12.trans x3).trans (x4.trans x5)).trans x6).trans (Ex.new n2)) upd_same⟩
              | some rs =>
                have rl := came_few po hcm
                rw [hcm] at d24 lm
                have wn : w2 ≠ .non := by
                  cases (show Dp K H4 w2 (rowsD rs) from d24) with
                  | tup _ _ => exact fun z => by cases z
                refine s_seq (s_if (b := false) (et_is (et_and tw fun _ => ti) (by rw [decide_eq_false wn]; rfl)) (fun z => by cases z) fun _ H6 x6 => s_next ?_)
                have B6 := B5.ex x6
                refine s_seq (s_dpop (k := .inl t.1.num) (B6.at'.e_pieces rfl) (ev_var rfl) B6.at'.hp hv fun H7 x7 => ?_)
                have B7 := B6.ex x7
                have kp := B7.at'.kt_pc (u := .dK (dropK (opV l) (.inl t.1.num)))
                have W7 := B7.at'.put_pc (pkv2 := dropK (opV l) (.inl t.1.num))
                have x57 := (x5.trans x6).trans x7
                have o7 : ∀ a u, a ∉ [o, rd, kn, pc, ev, ot] → H a = some u → (upd H7 pc (.dK (dropK (opV l) (.inl t.1.num)))) a = some u := fun a u na h => by rw [upd_ne fun z => na (by simp [z])]; exact x7 _ _ (x6 _ _ (oH5 a u na h))
                have k47 := (Kt.ex x57).trans kp
                have dv7 := kp.dps B7.eg B7.dv
                generalize upd H7 pc (.dK (dropK (opV l) (.inl t.1.num))) = H8 at kp W7 o7 k47 dv7 ⊢
                refine s_if (b := true) tw (fun _ H9 x9 => ?_) fun z => by cases z
                have kp9 := kp.trans (Kt.ex x9)
                have k49 := k47.trans (Kt.ex x9)
                obtain ⟨r1, r2⟩ := po.r rs hcm
                have ri : RowsIn t.1.lo t.1.hi rs := ⟨r2, fun r mr => ⟨(r1 r mr).1, (r1 r mr).2.1⟩, fun r mr => (r1 r mr).2.2⟩
                refine ⟨_, rfl, _, rfl, _, rfl, o, rd, kn, pc, ev, ot, sa, w2, _, _, m.life, m.at', t.1.lo, t.1.hi, rkv, kkv, ov, m.f, m.ev, rs, rfl, W7.ex x9, B7.di, B7.mi, dps_same x9 _ _ dv7, B7.eg, k49.t hsa4, k49.dp 2 _ _ (nl_rows rs) d24, ri, po.a, po.b, po.c, rl, el, fun rkv' kkv' ov' HA oA kA WA diA miA dvA => s_next (s_next ?_)⟩
                have egA : ∀ e ∈ m.ev ++ (newOnes m.f rs).map (cpD m.at'), nl 1 e = true := fun e me => by
                  rcases List.mem_append.mp me with me | me
                  · exact B7.eg e me
                  · obtain ⟨r, _, rfl⟩ := List.mem_map.mp me
                    rfl
                obtain ⟨l2, BB⟩ := B7.pdel t.1.num WA (kp9.trans kA) diA miA dvA egA
                exact fin BB (fun a u na h => off_4 oA a u na (x9 _ _ (o7 a u na h))) (by rw [et, lm, ← copies_are ri]; rfl) (fun _ _ => rfl)
      · refine s_seq (s_if (b := false) (et_is (et_and (b := false) (et_is t1 (decide_eq_false hl)) fun z => by cases z) rfl) (fun z => by cases z) fun _ H3 x3 => s_next ?_)
        exact fin (B2.ex x3) (fun a u na h => x3 _ _ (oH2 a u na h)) (by show (if lf = m.life then _ else _) = _; rw [if_neg hl]) (fun _ _ => rfl)
end
end K27
namespace K27
open PySem L2 PyProof.Rows Tc Evl
abbrev sArp : Stmt := topS 58
theorem scArp : FnScope ["thing", "keys", "pair"] ["thing"] (defScope sArp) := ⟨rfl, rfl, rfl, by decide +kernel, rfl, by decide +kernel, by decide +kernel⟩
section
variable {P : Program} {w : World} {K : PySem.W.Frag} {mg : Str → Option Value} {base : Heap}
def within (lo hi : Int) : PyData → Bool
  | .int i => decide (lo ≤ i) && decide (i ≤ hi) | _ => false
theorem within_eq (lo hi : Int) (d : PyData) : (isInt d && (!isBool d && within lo hi d)) = within lo hi d := by
  cases d <;> first | rfl | (simp [isInt, isBool, within])
theorem within_key (d : PyData) : within 0 999 d = isKey d := by
  cases d with
  | int i =>
    show (decide (0 ≤ i) && decide (i ≤ 999)) = (decide (0 ≤ i) && decide (i < 1000))
    rw [show decide (i ≤ 999) = decide (i < 1000) from decide_eq_decide.mpr (by omega)]
  | _ => rfl
def spWithin (K : PySem.W.Frag) : Sp := fun vs H Q _ => ∃ (v : V) (d : PyData) (lo hi : Int), vs = [v, .int lo, .int hi] ∧ Dp K H v d ∧ ∀ H', Ex H H' → Q (.bl (within lo hi d)) H'
abbrev sWithin : Stmt := topS 51
theorem scWithin : FnScope ["thing", "least", "most"] ["thing", "least", "most"] (defScope sWithin) := ⟨rfl, rfl, rfl, by decide +kernel, rfl, by decide +kernel, by decide +kernel⟩
theorem ok_within {f : Addr} {fd : FuncData} {k : Nat} (F : Fun K "_law_within" "_law_within" sWithin f fd) (N : Names mg) : FnOk P w K mg base CX0 (k + 1) f fd ["thing", "least", "most"] (spWithin K) := by
  refine F.ok scWithin (fun vs H Q E h => ?_) (fun cdv A outer s H vs Q E hr h => ?_)
  · obtain ⟨v, d, lo, hi, rfl, _⟩ := h
    rfl
  · obtain ⟨v, d, lo, hi, rfl, hd, q⟩ := h
    refine ⟨_, pss_one (ps_ret (pe_and (pe_callB call_isi (by rfl) N.isinstance boot_isinstance (pa_cons (pv 0) (pa_cons (pe_bltn (v := .ty "int") (by rfl) N.int boot_int rfl) pa_nil)))
      (pe_and (pe_not (pe_callB call_isi (by rfl) N.isinstance boot_isinstance (pa_cons (pv 0) (pa_cons (pe_bltn (v := .ty "bool") (by rfl) N.bool boot_bool rfl) pa_nil))))
      (pe_one (pe_chain op_le op_le (pv 1) (pv 0) (pv 2)))))), ?_⟩
    refine s_ret (ev_is (ev_andV (ev_int (ev_var rfl) hd) fun e => ev_andV (b := within lo hi d) (ev_notV (ev_bool (ev_var rfl) hd)) fun e2 => ?_) (congrArg V.bl (within_eq lo hi d))) q
    cases hd with
    | int i => exact ev_chain (p := fun i j => decide (i ≤ j)) (p' := fun i j => decide (i ≤ j)) (ev_var rfl) (ev_var rfl) (ev_var rfl)
    | bl b => cases e2
    | _ => cases e
theorem ev_within {σ : L2.St} {H : Hp} {ta tb tc : TE} {E : XK} {v : V} {d : PyData} {lo hi : Int} (ha : Ev ta σ H v) (hb : Ev tb σ H (.int lo)) (hc : Ev tc σ H (.int hi)) (h : Dp K H v d) : Ev (tCall (spWithin K) [] E (tCons ta (tCons tb (tCons tc tNil)))) σ H (.bl (within lo hi d)) :=
  ev_call (ea_cons ha (ea_cons hb (ea_cons hc ea_nil))) fun H1 e Q q E => ⟨v, d, lo, hi, rfl, dp_same e _ _ h, fun H' e' => q H' e'⟩
abbrev sPair : Stmt := topS 57
theorem scPair : FnScope ["thing"] ["thing"] (defScope sPair) := ⟨rfl, rfl, rfl, by decide +kernel, rfl, by decide +kernel, by decide +kernel⟩
theorem ok_pair {f : Addr} {fd : FuncData} {k : Nat} (F : Fun K "_law_is_pair" "_law_is_pair" sPair f fd) (N : Names mg) (dW : Own P w K mg base "_law_within" ["thing", "least", "most"] k (spWithin K)) : FnOk P w K mg base CX0 (k + 1) f fd ["thing"] (spTold K isRow) := by
  refine F.ok scPair (fun vs H Q E h => ?_) (fun cdv A outer s H vs Q E hr h => ?_)
  · obtain ⟨v, d, rfl, _⟩ := h
    rfl
  · obtain ⟨v, d, rfl, hd, q⟩ := h
    refine ⟨_, pss_cons (ps_if (PW.pt (pw_or (pt_not (pt_val (pe_callB call_isi (by rfl) N.isinstance boot_isinstance (pa_cons (pv 0) (pa_cons (pe_bltn (v := .ty "tuple") (by rfl) N.tuple boot_tuple rfl) pa_nil)))))
        (pw_or1 (pt_cmpR op_ne (pe_callB call_len_seq (by rfl) N.len PySem.boot_len (pa_cons (pv 0) pa_nil)) pe_int (nomark _))))) (pss_one (ps_ret pe_bl)) pss_nil)
      (pss_one (ps_ret (pe_and (pe_own dW hr (Nat.le_refl _) (by rfl) (pa_cons (pe_ix ix_tup (pv 0) pe_int (fun _ _ => rfl)) (pa_cons pe_int (pa_cons pe_int pa_nil))))
        (pe_one (pe_own dW hr (Nat.le_refl _) (by rfl) (pa_cons (pe_ix ix_tup (pv 0) pe_int (fun _ _ => rfl)) (pa_cons pe_int (pa_cons pe_int pa_nil)))))))), ?_⟩
    cases hT : isTup d with
    | false =>
      have e0 : isRow d = false := by
        rw [← row_eq, hT]
        rfl
      rw [e0] at q
      refine s_seq (s_if (et_or (et_not (et_B (ev_tuple (ev_var rfl) hd))) (b := false) fun e => ?_) (fun _ H1 x1 => s_ret ev_c fun H2 x2 => q H2 (x1.trans x2)) (fun e => ?_))
      · rw [hT] at e
        cases e
      · rw [hT] at e
        cases e
    | true =>
      obtain ⟨a, xs, ds, rfl, rfl, hS, hA⟩ := tup_dp hd hT
      have hl := dps_len hA
      refine s_seq (s_if (et_or (et_not (et_B (ev_tuple (ev_var rfl) hd))) fun e => et_test (ev_op (ev_lenT (ev_var rfl) hS) ev_c (rv_ne rfl))) (fun e H1 x1 => s_ret ev_c fun H2 x2 => ?_) (fun e H1 x1 => s_next ?_))
      · have e1 : (!decide (V.int (xs.length : Int) = V.int 2)) = true := e
        have e2 : ¬ ((ds.length : Int) = 2) := fun z => by
          rw [hl, z] at e1
          cases e1
        have e3 : isRow (.tuple ds) = false := by
          rw [← row_eq]
          show (true && (decide ((ds.length : Int) = 2) && _)) = false
          rw [decide_eq_false e2]
          rfl
        rw [e3] at q
        exact q H2 (x1.trans x2)
      · have e1 : (!decide (V.int (xs.length : Int) = V.int 2)) = false := e
        have e2 : ds.length = 2 := by
          have : decide (V.int (xs.length : Int) = V.int 2) = true := by
            cases h : decide (V.int (xs.length : Int) = V.int 2) with
            | true => rfl
            | false =>
              rw [h] at e1
              cases e1
          have := V.int.inj (of_decide_eq_true this)
          omega
        obtain ⟨d0, d1, rfl⟩ := two_of e2
        cases hA with
        | cons h0 r =>
          cases r with
          | cons h1 r2 =>
            cases r2
            refine s_ret (ev_is (ev_andV (ev_within (ev_ix0 (ev_var rfl) (ex_t x1 hS)) ev_c ev_c (dp_same x1 _ _ h0)) fun _ => ev_within (ev_ix1 (ev_var rfl) (ex_t x1 hS)) ev_c ev_c (dp_same x1 _ _ h1)) (congrArg V.bl ?_)) fun H2 x2 => q H2 (x1.trans x2)
            show (within 0 999 d0 && within 0 999 d1) = (isKey d0 && isKey d1)
            rw [within_key, within_key]
theorem rising_pw : ∀ (ds : List PyData) (l : Int), (∀ d ∈ ds, isRow d = true) → (rising l ds = true ↔ (∀ k ∈ ds.map keyOf, l ≤ k) ∧ (ds.map keyOf).Pairwise (· < ·))
  | [], l, _ => ⟨fun _ => ⟨fun k h => by simp at h, List.Pairwise.nil⟩, fun _ => rfl⟩
  | d :: ds, l, h => by
    have hd := h d List.mem_cons_self
    have ih := rising_pw ds (keyOf d + 1) fun e m => h e (List.mem_cons_of_mem _ m)
    rw [rising, hd, Bool.true_and, Bool.and_eq_true, decide_eq_true_eq, ih, List.map_cons, List.pairwise_cons]
    constructor
    · rintro ⟨h1, h2, h3⟩
      refine ⟨fun k m => ?_, fun k m => by have := h2 k m; omega, h3⟩
      rcases List.mem_cons.mp m with e | m
      · omega
      · have := h2 k m
        omega
    · rintro ⟨h1, h2, h3⟩
      exact ⟨h1 _ List.mem_cons_self, fun k m => by have := h2 k m; omega, h3⟩
theorem rising_rows : ∀ (ds : List PyData) (l : Int), rising l ds = true → ∀ d ∈ ds, isRow d = true
  | [], _, _, d, m => by simp at m
  | e :: ds, l, h, d, m => by
    rw [rising, Bool.and_eq_true, Bool.and_eq_true] at h
    rcases List.mem_cons.mp m with z | m
    · rw [z]
      exact h.1.1
    · exact rising_rows ds _ h.2 d m
theorem keyOf_bd {d : PyData} (h : isRow d = true) : 0 ≤ keyOf d ∧ keyOf d < 1000 := by
  cases d with
  | tuple ds =>
    obtain ⟨d0, d1, rfl, k0, k1⟩ := row_two h
    cases d0 with
    | int i =>
      have p : (decide (0 ≤ i) && decide (i < 1000)) = true := k0
      rw [Bool.and_eq_true, decide_eq_true_eq, decide_eq_true_eq] at p
      exact p
    | _ => cases k0
  | _ => cases h
theorem once_eq (ks : List Int) (hb : ∀ k ∈ ks, 0 ≤ k ∧ k < 1000) : decide (ks = once ks) = true ↔ ks.Pairwise (· < ·) := by
  rw [decide_eq_true_eq]
  constructor
  · intro h
    rw [h]
    exact once_pw ks
  · intro h
    exact rising_one _ _ h (once_pw ks) fun k => (once_mem ks hb k).symm
theorem pairs_eq (ds : List PyData) (h : ∀ d ∈ ds, isRow d = true) : decide (ds.map keyOf = once (ds.map keyOf)) = rising 0 ds := by
  have hb : ∀ k ∈ ds.map keyOf, 0 ≤ k ∧ k < 1000 := fun k m => by
    obtain ⟨d, m2, rfl⟩ := List.mem_map.mp m
    exact keyOf_bd (h d m2)
  have h1 := once_eq _ hb
  have h2 := rising_pw ds 0 h
  rw [Bool.eq_iff_iff, h1, h2]
  exact ⟨fun p => ⟨fun k m => (hb k m).1, p⟩, fun p => p.2⟩
def arePairs : PyData → Bool
  | .tuple ds => rising 0 ds | _ => false
def Short (d : PyData) : Prop := ∀ ds, d = .tuple ds → ds.length ≤ 2000
/-- the same, of data whose tuple is not too long -/
def spToldS (K : PySem.W.Frag) (f : PyData → Bool) : Sp := fun vs H Q _ => ∃ (v : V) (d : PyData), vs = [v] ∧ Dp K H v d ∧ Short d ∧ ∀ H', Ex H H' → Q (.bl (f d)) H'
theorem ev_toldS {σ : L2.St} {H : Hp} {ta : TE} {v : V} {d : PyData} {f : PyData → Bool} {E : XK} (ha : Ev ta σ H v) (h : Dp K H v d) (hz : Short d) : Ev (tCall (spToldS K f) [] E (tCons ta tNil)) σ H (.bl (f d)) :=
  ev_call (ea_cons ha ea_nil) fun H1 e Q q E => ⟨v, d, rfl, dp_same e _ _ h, hz, fun H' e' => q H' e'⟩
theorem ok_arp {f : Addr} {fd : FuncData} {k : Nat} (F : Fun K "_law_are_pairs" "_law_are_pairs" sArp f fd) (N : Names mg) (dP : Own P w K mg base "_law_is_pair" ["thing"] k (spTold K isRow)) :
    FnOk P w K mg base CX0 (k + 1) f fd ["thing"] (spToldS K arePairs) := by
  refine F.ok scArp (fun vs H Q E h => ?_) (fun cdv A outer s H vs Q E hr h => ?_)
  · obtain ⟨v, d, rfl, _⟩ := h
    rfl
  · obtain ⟨v, d, rfl, hd, hz, q⟩ := h
    refine ⟨_, pss_cons (ps_if (PW.pt (pw_or (pt_not (pt_val (pe_callB call_isi (by rfl) N.isinstance boot_isinstance (pa_cons (pv 0) (pa_cons (pe_bltn (v := .ty "tuple") (by rfl) N.tuple boot_tuple rfl) pa_nil)))))
        (pw_or1 (pt_cmpR (op_neE hr.units) (pe_lc (own := [("pair", 2)]) (g := gName 2) rfl scArp.nd (pi_tup (pv 0)) (blkOk_by (N := ["thing", "keys", "pair"]) (sc := defScope sArp) (by decide +kernel)) (fun _ _ _ _ _ => pg_name (i := 2) scArp.nd rfl (Or.inl rfl))
          (fun _ _ _ _ _ => pts_one (pt_not (pt_val (pe_own dP hr (Nat.le_refl _) (by rfl) (pa_cons (pv 2) pa_nil))))) (fun _ _ _ _ _ => pv 2)) (pe_lst pa_nil) (nomark _))))) (pss_one (ps_ret pe_bl)) pss_nil)
      (pss_cons (ps_setLc (i := 1) (own := [("pair", 2)]) (g := gName 2) (te := tOp (rIxT K) (tVar 2) (tC (.int 0))) rfl scArp.nd rfl rfl (sw_true rfl rfl rfl (by decide +kernel)) (pi_tup (pv 0)) (blkOk_by (N := ["thing", "keys", "pair"]) (sc := defScope sArp) (by decide +kernel)) (fun _ _ _ _ _ => pg_name (i := 2) scArp.nd rfl (Or.inl rfl))
          (fun _ _ _ _ _ => pts_nil) (fun _ _ _ _ _ => pe_ix ix_tup (pv 2) pe_int (fun _ _ => rfl)))
      (pss_one (ps_ret (pe_cmpR (op_eqD hr.units) (pv 1) (pe_callB (cr_sortedSetA rfl) (by rfl) N.sorted boot_sorted (pa_cons (pe_callTy (cr_setL rfl) (by rfl) N.set boot_set (pa_cons (pv 1) pa_nil)) pa_nil)) (nomark _))))), ?_⟩
    cases hT : isTup d with
    | false =>
      have e0 : arePairs d = false := by
        cases d <;> first | rfl | cases hT
      rw [e0] at q
      refine s_seq (s_if (et_or (et_not (et_B (ev_tuple (ev_var rfl) hd))) (b := false) fun e => ?_) (fun _ H1 x1 => s_ret ev_c fun H2 x2 => q H2 (x1.trans x2)) (fun e => ?_))
      · rw [hT] at e
        cases e
      · rw [hT] at e
        cases e
    | true =>
      obtain ⟨a, xs, ds, rfl, rfl, hS, hA⟩ := tup_dp hd hT
      have hl := dps_len hA
      have hl2 := hz ds rfl
      have hat : ∀ {i : Nat} {x : V}, xs[i]? = some x → Dp K H x (ds.getD i .none) := fun {i x} e => by
        obtain ⟨dx, h1, h2⟩ := dps_at hA e
        rw [List.getD_eq_getElem?_getD, h1]
        exact h2
      refine s_seq (s_if (et_or (et_not (et_B (ev_tuple (ev_var rfl) hd))) fun e => et_test (ev_opLL (z := .bl (!(given xs.length (fun i => !isRow (ds.getD i .none)) (fun i => xs.getD i .non)).isEmpty)) (el_lcT (K := K) (fun i => !isRow (ds.getD i .none)) (fun i => xs.getD i .non) (ev_var rfl) hS (by omega) (fun x => rfl)
        (fun i x H1 e1 hx => et_not (et_B (ev_told (ev_var rfl) (dp_same e1 _ _ (hat hx))))) (fun i x H1 e1 hx _ => ev_is (ev_var rfl) (by rw [List.getD_eq_getElem?_getD, hx]; rfl))) (el_lst ea_nil (by decide)) fun p r H1 hp hr x1 H2 x2 Q q => ⟨p, r, _, rfl, rfl, sq_of (x2 p _ hp), sq_of (x2 r _ hr), q H2 (Ex.refl H2)⟩)) (fun e H1 x1 => s_ret ev_c fun H2 x2 => ?_) (fun e H1 x1 => s_next ?_))
      · have e1 : (!(given xs.length (fun i => !isRow (ds.getD i .none)) (fun i => xs.getD i .non)).isEmpty) = true := e
        have e2 : arePairs (.tuple ds) = false := by
          show rising 0 ds = false
          cases hr : rising 0 ds with
          | false => rfl
          | true =>
            have h1 := rising_rows ds 0 hr
            have h2 : (given xs.length (fun i => !isRow (ds.getD i .none)) (fun i => xs.getD i .non)).isEmpty = true := (given_empty _ _ _).mpr fun i hi => by
              have hi2 : i < ds.length := by omega
              rw [List.getD_eq_getElem?_getD, List.getElem?_eq_getElem hi2]
              show (!isRow ds[i]) = false
              rw [h1 _ (List.getElem_mem hi2)]
              rfl
            rw [h2] at e1
            cases e1
        rw [e2] at q
        exact q H2 (x1.trans x2)
      · have e1 : (!(given xs.length (fun i => !isRow (ds.getD i .none)) (fun i => xs.getD i .non)).isEmpty) = false := e
        have e2 : (given xs.length (fun i => !isRow (ds.getD i .none)) (fun i => xs.getD i .non)).isEmpty = true := by
          cases h : (given xs.length (fun i => !isRow (ds.getD i .none)) (fun i => xs.getD i .non)).isEmpty with
          | true => rfl
          | false =>
            rw [h] at e1
            cases e1
        have hrow : ∀ i, i < ds.length → isRow (ds.getD i .none) = true := fun i hi => by
          have h := (given_empty _ _ _).mp e2 i (by omega)
          cases h2 : isRow (ds.getD i .none) with
          | true => rfl
          | false =>
            rw [h2] at h
            cases h
        have hall : ∀ d ∈ ds, isRow d = true := fun d m => by
          obtain ⟨i, hi, rfl⟩ := List.mem_iff_getElem.mp m
          have h := hrow i hi
          rw [List.getD_eq_getElem?_getD, List.getElem?_eq_getElem hi] at h
          exact h
        have q' : ∀ H', Ex H H' → Q (.bl (decide (ds.map keyOf = once (ds.map keyOf)))) H' := by
          rw [pairs_eq ds hall]
          exact q
        have hb : ∀ k ∈ ds.map keyOf, 0 ≤ k ∧ k < 1000 := fun k m => by
          obtain ⟨d, m2, rfl⟩ := List.mem_map.mp m
          exact keyOf_bd (hall d m2)
        have hks : (given xs.length (fun _ => true) (fun i => V.int (keyOf (ds.getD i .none)))) = (ds.map keyOf).map V.int := by
          rw [given_all, hl]
          apply List.ext_getElem
          · simp
          · intro i h1 h2
            simp only [List.length_map] at h2
            simp [List.getD_eq_getElem?_getD, List.getElem?_eq_getElem h2]
        refine s_seq (s_asgL (el_lcT (K := K) (fun _ => true) (fun i => V.int (keyOf (ds.getD i .none))) (ev_var rfl) (ex_t x1 hS) (by omega) (fun x => rfl) (fun i x H2 e2 hx => et_yes) fun i x H2 e2 hx _ => ?_) fun p H2 hp x2 h2 => ?_)
        · have hi : i < ds.length := by
            have := (List.getElem?_eq_some_iff.mp hx).1
            omega
          obtain ⟨b, kk, z, rfl, e4, hb2, _⟩ := row_dp (dp_same (x1.trans e2) _ _ (hat hx)) (hrow i hi)
          rw [e4]
          exact ev_ix0 (ev_var rfl) hb2
        · rw [hks] at h2
          have h2' : SqL K H2 p ((ds.map keyOf).map V.int) := sq_of h2
          refine s_ret (ev_opL (z := .bl (decide (ds.map keyOf = once (ds.map keyOf)))) (ev_var rfl) (el_sortsetV (ev_var rfl) h2' (by simp; omega) fun l h3 h4 => rising_one l _ h3 (once_pw _) fun k => (h4 k).trans (once_mem _ hb k).symm) fun r H3 hr x3 H4 x4 Q q => ?_) fun H3 x3 => q' H3 ((x1.trans x2).trans x3)
          refine ⟨.list ((ds.map keyOf).map PyData.int), .list ((once (ds.map keyOf)).map PyData.int), .lst (ex_l (x3.trans x4) h2') dps_ints, .lst (sq_of (x4 r _ hr)) dps_ints, shaped_ints _, shaped_ints _, ?_⟩
          have e5 : PyData.eqv (.list ((ds.map keyOf).map PyData.int)) (.list ((once (ds.map keyOf)).map PyData.int)) = decide (ds.map keyOf = once (ds.map keyOf)) := by
            rw [PyData.eqv]
            exact eqv_ints _ _
          rw [e5]
          exact q H4 (Ex.refl H4)
end
section
variable {P : Program} {w : World} {K : PySem.W.Frag} {mg : Str → Option Value} {base : Heap}
end
end K27
/-! a op1 b op2 c op3 d -/
namespace Tc
open PySem PySem.Spec PyProof.Rows L2 Evl
def tChain4 (r r' r2 : R2) (ta tb tc td : TE) : TE := fun σ H Q => ta σ H fun x H1 => tb σ H1 fun y H2 => r x y H2 fun z H3 => ∃ k, z = .bl k ∧
  (if k = true then (tc σ H3 fun u H4 => r' y u H4 fun z' H5 => ∃ k', z' = .bl k' ∧ (if k' = true then (td σ H5 fun v H6 => r2 u v H6 Q) else Q (.bl false) H5)) else Q (.bl false) H3)
theorem pe_chain4 {X : Cx} {a b c d : Expr} {ta tb tc td : TE} {pos : Pos} {op op' op2 : CmpOp} {r r' r2 : R2} (ho : OpR X (compareOp op) r) (ho' : OpR X (compareOp op') r') (ho2 : OpR X (compareOp op2) r2) (ha : PE X a ta) (hb : PE X b tb) (hc : PE X c tc) (hd : PE X d td)
    (hm : lastMarks [op, op', op2] [b, c, d] = false := by with_unfolding_all rfl) : PE X (.Compare a [op, op', op2] [b, c, d] pos) (tChain4 r r' r2 ta tb tc td) := by
  refine ⟨fun pins s σ H Q I want => Compare_chain (thn (ha.run pins s σ H _ I want) fun v s1 ⟨x, H1, I1, r1, q1⟩ => chain_link (thn (hb.run pins s1 σ H1 _ I1 q1) fun u s2 ⟨y, H2, I2, ry, q2⟩ =>
    thn (ho pins s2 σ H2 x y v u _ I2 r1 ry q2) fun e s3 ⟨z, H3, I3, r3, k, ez, q3⟩ => ?_)) hm⟩
  subst ez
  cases r3
  refine wpAny_truthy_bool ?_
  cases k with
  | false => exact ite_ff ⟨.bl false, H3, I3, rfl, q3⟩
  | true =>
    refine ite_tt (chain_link (thn (hc.run pins s3 σ H3 _ I3 q3) fun u2 s4 ⟨y2, H4, I4, r4, q4⟩ => thn (ho' pins s4 σ H4 y y2 u u2 _ I4 ry r4 q4) fun e2 s5 ⟨z2, H5, I5, r5, k2, ez2, q5⟩ => ?_))
    subst ez2
    cases r5
    refine wpAny_truthy_bool ?_
    cases k2 with
    | false => exact ite_ff ⟨.bl false, H5, I5, rfl, q5⟩
    | true => exact ite_tt (chain_last (thn (hd.run pins s5 σ H5 _ I5 q5) fun w2 s6 ⟨y3, H6, I6, r6, q6⟩ => ho2 pins s6 σ H6 y2 y3 u2 w2 Q I6 r4 r6 q6))
end Tc
/-! a op1 b op2 c op3 d as a test -/
namespace Tc
open PySem PySem.Spec PyProof.Rows L2 Evl
theorem pt_chain4 {X : Cx} {a b c d : Expr} {ta tb tc td : TE} {pos : Pos} {op op' op2 : CmpOp} {r r' r2 : R2} (ho : OpR X (compareOp op) r) (ho' : OpR X (compareOp op') r') (ho2 : OpR X (compareOp op2) r2) (ha : PE X a ta) (hb : PE X b tb) (hc : PE X c tc) (hd : PE X d td)
    (hm : lastMarks [op, op', op2] [b, c, d] = false := by with_unfolding_all rfl) : L2.PT X (.Compare a [op, op', op2] [b, c, d] pos) (tTest (tChain4 r r' r2 ta tb tc td)) := by
  refine ⟨fun pins s σ H Q I want => isTrue_chain (thn (ha.run pins s σ H _ I want) fun v s1 ⟨x, H1, I1, r1, q1⟩ => test_link (thn (hb.run pins s1 σ H1 _ I1 q1) fun u s2 ⟨y, H2, I2, ry, q2⟩ =>
    thn (ho pins s2 σ H2 x y v u _ I2 r1 ry q2) fun e s3 ⟨z, H3, I3, r3, k, ez, q3⟩ => ?_)) hm⟩
  subst ez
  cases r3
  refine wpAny_truthy_bool ?_
  cases k with
  | false =>
    obtain ⟨k, e, q⟩ : ∃ k, V.bl false = V.bl k ∧ Q k H3 := q3
    cases e
    exact ite_ff ⟨H3, I3, q⟩
  | true =>
    refine ite_tt (test_link (thn (hc.run pins s3 σ H3 _ I3 q3) fun u2 s4 ⟨y2, H4, I4, r4, q4⟩ => thn (ho' pins s4 σ H4 y y2 u u2 _ I4 ry r4 q4) fun e2 s5 ⟨z2, H5, I5, r5, k2, ez2, q5⟩ => ?_))
    subst ez2
    cases r5
    refine wpAny_truthy_bool ?_
    cases k2 with
    | false =>
      obtain ⟨k, e, q⟩ : ∃ k, V.bl false = V.bl k ∧ Q k H5 := q5
      cases e
      exact ite_ff ⟨H5, I5, q⟩
    | true =>
      refine ite_tt (test_last (thn (hd.run pins s5 σ H5 _ I5 q5) fun w2 s6 ⟨y3, H6, I6, r6, q6⟩ => thn (ho2 pins s6 σ H6 y2 y3 u2 w2 _ I6 r4 r6 q6) fun e3 s7 ⟨z3, H7, I7, r7, k3, ez3, q7⟩ => ?_))
      subst ez3
      cases r7
      exact wpAny_truthy_bool ⟨H7, I7, q7⟩
end Tc
namespace K27
open PySem L2 L2H PyProof.Rows Tc Evl
theorem inV_int (ks : List Int) (i : Int) : inV (.int i) (ks.map V.int) = decide (i ∈ ks) := by
  unfold inV
  rw [List.any_map]
  apply Bool.eq_iff_iff.mpr
  rw [List.any_eq_true, decide_eq_true_iff]
  constructor
  · rintro ⟨k, mk, e⟩
    have e' : (k == i) = true := e
    rw [← eq_of_beq e']
    exact mk
  · exact fun m => ⟨i, m, by show (i == i) = true; exact beq_self_eq_true i⟩
theorem ev_dnotin {σ : L2.St} {H : Hp} {ty td : TE} {i : Int} {D : Addr} {kvs : List (Key × V)} (hi : Ev ty σ H (.int i)) (hd : Ev td σ H (.ref D)) (h : H D = some (.dK kvs)) : Ev (tDNotIn ty td) σ H (.bl (!(valV kvs (Sum.inl i : Key)).isSome)) := fun H1 x Q q =>
  hi H1 x _ fun H2 x2 => hd H2 (x.trans x2) _ fun H3 x3 => ⟨D, _, rfl, DGet.k (k := Sum.inl i) (((x.trans x2).trans x3) _ _ h), q H3 (x2.trans x3)⟩
theorem ev_chain4 {σ : L2.St} {H : Hp} {ta tb tc td : TE} {a b c d : Int} (ha : Ev ta σ H (.int a)) (hb : Ev tb σ H (.int b)) (hc : Ev tc σ H (.int c)) (hd : Ev td σ H (.int d)) : Ev (tChain4 (rI0 fun i j => .bl (decide (i ≤ j))) (rI0 fun i j => .bl (decide (i < j))) (rI0 fun i j => .bl (decide (i ≤ j))) ta tb tc td) σ H (.bl (decide (a ≤ b ∧ b < c ∧ c ≤ d))) := fun H1 x Q q =>
  ha H1 x _ fun H2 x2 => hb H2 (x.trans x2) _ fun H3 x3 => ⟨a, b, rfl, rfl, _, rfl, ite2 (fun z => by
    have z1 := of_decide_eq_true z
    exact hc H3 ((x.trans x2).trans x3) _ fun H4 x4 => ⟨b, c, rfl, rfl, _, rfl, ite2 (fun z => by
      have z2 := of_decide_eq_true z
      refine hd H4 (((x.trans x2).trans x3).trans x4) _ fun H5 x5 => ⟨c, d, rfl, rfl, ?_⟩
      have := q H5 (((x2.trans x3).trans x4).trans x5)
      rwa [show decide (a ≤ b ∧ b < c ∧ c ≤ d) = decide (c ≤ d) from decide_eq_decide.mpr ⟨fun z => z.2.2, fun z => ⟨z1, z2, z⟩⟩] at this) fun z => by
      have := q H4 ((x2.trans x3).trans x4)
      rwa [decide_eq_false fun y : a ≤ b ∧ b < c ∧ c ≤ d => z (decide_eq_true y.2.1)] at this⟩) fun z => by
    have := q H3 (x2.trans x3)
    rwa [decide_eq_false fun y : a ≤ b ∧ b < c ∧ c ≤ d => z (decide_eq_true y.1)] at this⟩
theorem cb_one {r : List V → Hp → VK → Prop} {te : TE} {σ : L2.St} {H : Hp} {Q : VK} (h : te σ H fun x H1 => r [x] H1 Q) : tCB r (tCons te tNil) σ H Q := h
abbrev sDu : Stmt := topS 67
theorem scDu : FnScope ["own", "step", "word", "stretch", "way", "rows", "pair"] ["own", "step"] (defScope sDu) := ⟨rfl, rfl, rfl, by decide +kernel, rfl, by decide +kernel, by decide +kernel⟩
theorem ris_all : ∀ (ds : List PyData) (l : Int), rising l ds = true → ∀ d ∈ ds, l ≤ keyOf d
  | [], _, _, d, md => by cases md
  | e :: ds, l, h, d, md => by
    have h' : (isRow e && decide (l ≤ keyOf e) && rising (keyOf e + 1) ds) = true := h
    rw [Bool.and_eq_true, Bool.and_eq_true] at h'
    have h1 := of_decide_eq_true h'.1.2
    rcases List.mem_cons.mp md with rfl | md
    · exact h1
    · have := ris_all ds _ h'.2 d md
      omega
theorem risB_top (hi : Int) : ∀ (ds : List PyData) (l : Int), risB hi l ds = (rising l ds && ds.all fun d => decide (keyOf d < hi))
  | [], _ => rfl
  | d :: ds, l => by
    show (isRow d && (decide (l ≤ keyOf d) && decide (keyOf d < hi)) && risB hi (keyOf d + 1) ds) = ((isRow d && decide (l ≤ keyOf d) && rising (keyOf d + 1) ds) && (decide (keyOf d < hi) && ds.all fun d => decide (keyOf d < hi)))
    rw [risB_top hi ds]
    cases isRow d <;> cases decide (l ≤ keyOf d) <;> cases decide (keyOf d < hi) <;> cases rising (keyOf d + 1) ds <;> rfl
theorem ris_low {lo : Int} (h0 : 0 ≤ lo) : ∀ ds : List PyData, rising lo ds = (rising 0 ds && ds.all fun d => decide (lo ≤ keyOf d))
  | [] => rfl
  | d :: ds => by
    show (isRow d && decide (lo ≤ keyOf d) && rising (keyOf d + 1) ds) = ((isRow d && decide (0 ≤ keyOf d) && rising (keyOf d + 1) ds) && (decide (lo ≤ keyOf d) && ds.all fun d => decide (lo ≤ keyOf d)))
    cases hr : rising (keyOf d + 1) ds with
    | false => simp
    | true =>
      by_cases hl : lo ≤ keyOf d
      · have ha : (ds.all fun d => decide (lo ≤ keyOf d)) = true := List.all_eq_true.mpr fun e me => decide_eq_true (by
          have := ris_all ds _ hr e me
          omega)
        rw [ha, decide_eq_true hl, decide_eq_true (show 0 ≤ keyOf d by omega)]
        simp
      · rw [decide_eq_false hl]
        simp
theorem all_two {α : Type} (f g : α → Bool) : ∀ l : List α, (l.all f && l.all g) = l.all fun x => f x && g x
  | [] => rfl
  | x :: l => by
    rw [List.all_cons, List.all_cons, List.all_cons, ← all_two f g l]
    cases f x <;> cases g x <;> cases l.all f <;> rfl
theorem rowsB_split {lo hi : Int} (h0 : 0 ≤ lo) (ds : List PyData) : rowsB lo hi (.tuple ds) = (arePairs (.tuple ds) && ds.all fun d => decide (lo ≤ keyOf d) && decide (keyOf d < hi)) := by
  show risB hi lo ds = (rising 0 ds && _)
  rw [risB_top, ris_low h0, Bool.and_assoc]
  congr 1
  exact all_two _ _ ds
theorem rowsB_no {lo hi : Int} (h0 : 0 ≤ lo) {d : PyData} (h : arePairs d = false) : rowsB lo hi d = false := by
  cases d with
  | tuple ds => rw [rowsB_split h0, h]; rfl
  | _ => rfl
theorem rows_back : ∀ {ds : List PyData}, (∀ d ∈ ds, isRow d = true) → ∃ rs : List (Int × Int), ds = rs.map Tc.pairD
  | [], _ => ⟨[], rfl⟩
  | d :: ds, h => by
    obtain ⟨rs, e⟩ := rows_back (ds := ds) fun x mx => h x (List.mem_cons_of_mem _ mx)
    have hd := h d List.mem_cons_self
    unfold isRow at hd
    split at hd
    · rename_i k w
      rw [Bool.and_eq_true] at hd
      cases k with
      | int i =>
        cases w with
        | int j => exact ⟨(i, j) :: rs, by rw [e]; rfl⟩
        | _ => cases hd.2
      | _ => cases hd.1
    · cases hd
def spDu (K : PySem.W.Frag) : Sp := fun vs H Q _ => ∃ (o st : Addr) (m : TM) (X : Addr → Prop) (s : TSt) (us : List V), vs = [.ref o, .ref st] ∧ OwM K H o m X ∧ TFew m ∧ SqT K H st us ∧ DpAll K H us (tsD s) ∧ tsOk s ∧ (∀ i d, s = .answer i d → Short d) ∧
  (∀ m', tdo m s = .ok m' → ∀ t H', OOut K H o X m' H' → H' t = some (.tup [.str "", .non]) → Q (.ref t) H') ∧
  (∀ r i, tdo m s = .no r i → ∀ t H', Ex H H' → H' t = some (.tup [.str (rtT r), iV i]) → Q (.ref t) H')
section
variable {P : Program} {w : World} {K : PySem.W.Frag} {mg : Str → Option Value} {base : Heap}
set_option maxHeartbeats 4000000 in
theorem ok_due {f : Addr} {fd : FuncData} {kTt kAp k : Nat} (F : Fun K "_law_taker_due" "_law_taker_due" sDu f fd) (N : Names mg) (dTt : Own P w K mg base "_law_taker_takes" ["own", "entry"] kTt (spTt K)) (hTt : kTt ≤ k) (dAp : Own P w K mg base "_law_are_pairs" ["thing"] kAp (spToldS K arePairs)) (hAp : kAp ≤ k) : FnOk P w K mg base CX0 (k + 1) f fd ["own", "step"] (spDu K) := by
  refine F.ok scDu (fun vs H Q E h => ?_) (fun cdv A outer s H vs Q E hr h => ?_)
  · obtain ⟨o, st, m, X, sp, us, rfl, _⟩ := h
    rfl
  · obtain ⟨o, st, m, X, sp, us, rfl, S, few, hst, du, ok, sho, qo, qn⟩ := h
    refine ⟨_, (pss_cons (ps_set (i := 2) scDu.nd rfl (.inl rfl) (pe_ix ix_tup (pv 1) pe_int (fun _ _ => rfl)))
      (pss_cons (ps_if (pt_cmpR op_eq (pv 2) pe_str (nomark _)) (pss_one (ps_ret (pe_own dTt hr hTt (by rfl) (pa_cons (pv 0) (pa_cons (pe_ix ix_tup (pv 1) pe_int (fun _ _ => rfl)) pa_nil))))) pss_nil)
      (pss_cons (ps_if (pt_cmpR op_eq (pv 2) pe_str (nomark _)) (pss_cons (ps_if (pt_cmpR op_in_seq (pe_ix ix_tup (pv 1) pe_int (fun _ _ => rfl)) (pe_dget (hu_of hr) (pv 0) pe_str (fun _ _ => rfl)) (by rfl)) (pss_one (ps_ret (pe_tup (pa_cons pe_str (pa_cons pe_non pa_nil))))) pss_nil)
      (pss_cons (ps_if (pt_not (pt_chain4 op_le op_lt op_le pe_int (pe_ix ix_tup (pv 1) pe_int (fun _ _ => rfl)) (pe_ix ix_tup (pv 1) pe_int (fun _ _ => rfl)) pe_int)) (pss_one (ps_ret (pe_tup (pa_cons pe_str (pa_cons pe_non pa_nil))))) pss_nil)
      (pss_cons (ps_expr (pe_bm PySem.F.plainAttrs_list PySem.F.slot_list_append PySem.F.type_list_append mt_append (pe_dget (hu_of hr) (pv 0) pe_str (fun _ _ => rfl)) (pa_cons (pe_ix ix_tup (pv 1) pe_int (fun _ _ => rfl)) pa_nil)))
      (pss_cons (ps_dput (hu_of hr) (pe_dget (hu_of hr) (pv 0) pe_str (fun _ _ => rfl)) (pe_ix ix_tup (pv 1) pe_int (fun _ _ => rfl)) (pe_tup (pa_cons (pe_slice sl_tupA (pv 1) (po_some pe_int) po_none) (pa_cons pe_bl (pa_cons pe_non pa_nil)))) rfl)
      (pss_one (ps_ret (pe_tup (pa_cons pe_str (pa_cons pe_non pa_nil))))))))) pss_nil)
      (pss_cons (ps_if (pt_cmp (pc_dnotin (hu_of hr) (pe_ix ix_tup (pv 1) pe_int (fun _ _ => rfl)) (pe_dget (hu_of hr) (pv 0) pe_str (fun _ _ => rfl)))) (pss_one (ps_ret (pe_tup (pa_cons pe_str (pa_cons (pe_ix ix_tup (pv 1) pe_int (fun _ _ => rfl)) pa_nil))))) pss_nil)
      (pss_cons (ps_asg (pe_dget (hu_of hr) (pe_dget (hu_of hr) (pv 0) pe_str (fun _ _ => rfl)) (pe_ix ix_tup (pv 1) pe_int (fun _ _ => rfl)) (fun _ _ => rfl)) (pg_tup rfl (pgs_cons (pg_name (i := 3) scDu.nd rfl (.inr rfl)) (pgs_cons (pg_name (i := 4) scDu.nd rfl (.inl rfl)) (pgs_cons (pg_name (i := 5) scDu.nd rfl (.inl rfl)) pgs_nil)))))
      (pss_cons (ps_if (pt_cmpR op_eq (pv 2) pe_str (nomark _)) (pss_cons (ps_expr (pe_dpop1 (pe_dget (hu_of hr) (pv 0) pe_str (fun _ _ => rfl)) (pe_ix ix_tup (pv 1) pe_int (fun _ _ => rfl)) ⟨rfl, rfl, rfl, rfl⟩))
      (pss_one (ps_ret (pe_tup (pa_cons pe_str (pa_cons pe_non pa_nil)))))) pss_nil)
      (pss_cons (ps_if (pt_cmpR op_notN1 (pv 5) pe_non (nomark _)) (pss_one (ps_ret (pe_tup (pa_cons pe_str (pa_cons pe_non pa_nil))))) pss_nil)
      (pss_cons (ps_if (pt_not (pt_val (pe_own dAp hr hAp (by rfl) (pa_cons (pe_ix ix_tup (pv 1) pe_int (fun _ _ => rfl)) pa_nil)))) (pss_one (ps_ret (pe_tup (pa_cons pe_str (pa_cons pe_non pa_nil))))) pss_nil)
      (pss_cons (ps_if (pt_cmpR (op_neE hr.units) (pe_lc (own := [("pair", 6)]) (g := gName 6) (tt := tNot (tTest (tChain (rI0 fun i j => .bl (decide (i ≤ j))) (rI0 fun i j => .bl (decide (i < j))) (tOp (rIxT K) (tVar 3) (tC (.int 0))) (tOp (rIxT K) (tVar 6) (tC (.int 0))) (tOp (rIxT K) (tVar 3) (tC (.int 1)))))) (te := tVar 6) rfl scDu.nd (pi_tup (pe_ix ix_tup (pv 1) pe_int (fun _ _ => rfl))) (blkOk_by (N := ["own", "step", "word", "stretch", "way", "rows", "pair"]) (sc := defScope sDu) (by decide +kernel)) (fun _ _ _ _ _ => (pg_name (i := 6) scDu.nd rfl (.inl rfl))) (fun _ _ _ _ _ => (pts_one (pt_not (pt_chain op_le op_lt (pe_ix ix_tup (pv 3) pe_int (fun _ _ => rfl)) (pe_ix ix_tup (pv 6) pe_int (fun _ _ => rfl)) (pe_ix ix_tup (pv 3) pe_int (fun _ _ => rfl)))))) (fun _ _ _ _ _ => (pv 6))) (pe_lst pa_nil) (nomark _)) (pss_one (ps_ret (pe_tup (pa_cons pe_str (pa_cons pe_non pa_nil))))) pss_nil)
      (pss_cons (ps_dput (hu_of hr) (pe_dget (hu_of hr) (pv 0) pe_str (fun _ _ => rfl)) (pe_ix ix_tup (pv 1) pe_int (fun _ _ => rfl)) (pe_tup (pa_cons (pv 3) (pa_cons (pv 4) (pa_cons (pe_ix ix_tup (pv 1) pe_int (fun _ _ => rfl)) pa_nil)))) rfl)
      (pss_one (ps_ret (pe_tup (pa_cons pe_str (pa_cons pe_non pa_nil))))))))))))))), ?_⟩
    have S0 := S
    obtain ⟨rd, kn, pc, ev, ot, rkv, kkv, l, ov, B, fx⟩ := S0
    have N := ow_n B.at'.nn
    have wd : ∀ {w : Str} {us0 : List V} {H1 : Hp}, SqT K H1 st (.str w :: us0) → Ev (tOp (rIxT K) (tVar 1) (tC (.int 0))) [some (.ref o), some (.ref st), none, none, none, none, none] H1 (.str w) := fun h => ev_ix0 (ev_var rfl) h
    have wt : ∀ {w x : Str} {σ : L2.St} {H1 : Hp} {b : Bool}, σ[2]? = some (some (.str w)) → decide ((V.str w) = V.str x) = b → EvT (tTest (tOp rEq (tVar 2) (tC (.str x)))) σ H1 b := fun h e => et_is (et_test (ev_op (ev_var h) ev_c (rv_eq rfl))) e
    have oex : ∀ {G : Hp}, Ex H G → ∀ a u, a ∉ [o, rd, kn, pc, ev, ot] → H a = some u → G a = some u := fun x a u _ h => x _ _ h
    cases sp with
    | take d =>
      obtain ⟨u0, us0, rfl, h0, du0⟩ := dps_consT (show DpAll K H us (_ :: _) from du)
      obtain ⟨u1, us1, rfl, h1, du1⟩ := dps_consT du0
      cases h0
      cases du1
      refine q_asg (wd hst) fun H1 x1 => ?_
      refine s_seq (s_if (b := true) (wt rfl (by decide)) (fun _ H2 x2 => ?_) fun z => by cases z)
      have x12 := x1.trans x2
      refine ⟨_, rfl, ev_ix1 (ev_var rfl) (Evl.ex_t x12 hst) H2 (Ex.refl H2) _ fun H3 x3 => ?_⟩
      have x13 := x12.trans x3
      exact ⟨o, m, X, u1, d, rfl, S.ex x13, dp_same x13 _ _ h1, ok.1, ok.2.1, few, fun e t H' x h => qn .waits (some (numOf d)) (by dsimp only [tdo]; rw [e]) t H' (x13.trans x) h, fun m' e t H' q h => qo m' (by dsimp only [tdo]; rw [e]) t H' (q.pre x13) h⟩
    | ask i a b =>
      obtain ⟨u0, us0, rfl, h0, du0⟩ := dps_consT (show DpAll K H us (_ :: _) from du)
      obtain ⟨u1, us1, rfl, h1, du1⟩ := dps_consT du0
      obtain ⟨u2, us2, rfl, h2, du2⟩ := dps_consT du1
      obtain ⟨u3, us3, rfl, h3, du3'⟩ := dps_consT du2
      cases h0
      cases h1
      cases h2
      cases h3
      cases du3'
      refine q_asg (wd hst) fun H1 x1 => ?_
      refine s_seq (s_if (b := false) (wt rfl (by decide)) (fun z => by cases z) fun _ H2 x2 => s_next ?_)
      refine s_seq (s_if (b := true) (wt rfl (by decide)) (fun _ H3 x3 => ?_) fun z => by cases z)
      have x03 := (x1.trans x2).trans x3
      have B3 := B.ex x03
      have hst3 := Evl.ex_t x03 hst
      by_cases hi : i ∈ m.nums
      · refine s_seq (s_if (b := true) (et_is (et_test (ev_op (ev_ix1 (ev_var rfl) hst3) (B3.at'.e_ever rfl) (rv_isL (sq_of B3.at'.he) rfl (by simp [flatV])))) (by rw [inV_int]; exact decide_eq_true hi)) (fun _ H4 x4 => ?_) fun z => by cases z)
        exact ⟨sz_of (by simp), fun t ht => qn .twice none (by dsimp only [tdo]; rw [if_pos hi]) t _ ((x03.trans x4).trans (Ex.new ht)) upd_same⟩
      refine s_seq (s_if (b := false) (et_is (et_test (ev_op (ev_ix1 (ev_var rfl) hst3) (B3.at'.e_ever rfl) (rv_isL (sq_of B3.at'.he) rfl (by simp [flatV])))) (by rw [inV_int]; exact decide_eq_false hi)) (fun z => by cases z) fun _ H4 x4 => s_next ?_)
      have hst4 := Evl.ex_t x4 hst3
      have x04 := x03.trans x4
      have c4 : Ev (tChain4 (rI0 fun i j => .bl (decide (i ≤ j))) (rI0 fun i j => .bl (decide (i < j))) (rI0 fun i j => .bl (decide (i ≤ j))) (tC (.int 0)) (tOp (rIxT K) (tVar 1) (tC (.int 2))) (tOp (rIxT K) (tVar 1) (tC (.int 3))) (tC (.int 1000))) [some (.ref o), some (.ref st), some (.str "ask"), none, none, none, none] H4 (.bl (decide (0 ≤ a ∧ a < b ∧ b ≤ 1000))) := ev_chain4 ev_c (ev_op (ev_var rfl) ev_c (rv_ixT hst4 rfl)) (ev_op (ev_var rfl) ev_c (rv_ixT hst4 rfl)) ev_c
      by_cases hs : 0 ≤ a ∧ a < b ∧ b ≤ 1000
      · refine s_seq (s_if (b := false) (et_is (et_not (et_test c4)) (by rw [decide_eq_true hs]; rfl)) (fun z => by cases z) fun _ H5 x5 => s_next ?_)
        have B5 := B3.ex (x4.trans x5)
        have hst5 := Evl.ex_t x5 hst4
        have x05 := x04.trans x5
        have nl1 := few.nl
        refine s_seq (s_app B5.at'.he (B5.at'.e_ever rfl) (ev_ix1 (ev_var rfl) hst5) (by rw [List.length_map]; omega) fun H6 x6 => ?_)
        have B6 := B5.ex x6
        have W7 := B6.at'.put_ev (nv2 := m.nums.map V.int ++ [.int i])
        have k7 := (Kt.ex (x05.trans x6)).trans (B6.at'.kt_ev (u := .lst (m.nums.map V.int ++ [.int i])))
        have o7 : ∀ a u, a ∉ [o, rd, kn, pc, ev, ot] → H a = some u → (upd H6 ev (.lst (m.nums.map V.int ++ [.int i]))) a = some u := fun a u na h => by rw [upd_ne fun z => na (by simp [z])]; exact x6 _ _ (x05 _ _ h)
        generalize upd H6 ev (.lst (m.nums.map V.int ++ [.int i])) = H7 at W7 k7 o7 ⊢
        have hst7 := k7.t hst
        have ll : (opV l).length ≤ 10000 := by
          unfold opV
          rw [List.length_map, ← List.length_map (f := (·.1)), B.pl]
          exact few.pl
        dsimp only
        refine s_seq ⟨.ref st, rfl, 2, rfl, st, _, rfl, hst7, fun w => absurd w.1 (by show ¬ HT.sIx 4 0 (some 2) = 0; decide), fun _ t1 n1 => ⟨sz_of (by simp), fun t2 n2 => ?_⟩⟩
        have x8a := Ex.new n1 (o := .tup (cutV [.str "ask", .int i, .int a, .int b] (some 2) none))
        have ht1 : (upd H7 t1 (.tup (cutV [.str "ask", .int i, .int a, .int b] (some 2) none))) t1 = some (.tup [.int a, .int b]) := upd_same
        generalize upd H7 t1 (.tup (cutV [.str "ask", .int i, .int a, .int b] (some 2) none)) = H8 at x8a ht1 n2 ⊢
        have x8b := Ex.new n2 (o := .tup [.ref t1, .bl false, .non])
        have ht2 : (upd H8 t2 (.tup [.ref t1, .bl false, .non])) t2 = some (.tup [.ref t1, .bl false, .non]) := upd_same
        generalize upd H8 t2 (.tup [.ref t1, .bl false, .non]) = H9 at x8b ht2 ⊢
        have x79 := x8a.trans x8b
        have W9 := W7.ex x79
        refine W9.e_pieces (i := 0) rfl H9 (Ex.refl H9) _ fun HA xA => ev_ix1 (ev_var rfl) (Evl.ex_t (x79.trans xA) hst7) HA (Ex.refl HA) _ fun HB xB => ⟨pc, _, rfl, DPut.k (k := .inl i) ((xA.trans xB) _ _ W9.hp) (sz_lt (by omega)), ?_⟩
        have xAB := xA.trans xB
        have WB := (W9.ex xAB).put_pc (pkv2 := putK (opV l) (.inl i) (.ref t2))
        have kB := (W9.ex xAB).kt_pc (u := .dK (putK (opV l) (.inl i) (.ref t2)))
        have nov : valV (opV l) (.inl i) = none := by
          rcases opV_val B i with ⟨_, h⟩ | ⟨t, mt, en, _, _⟩
          · exact h
          · exact absurd (en ▸ B.pn t.1 (by rw [← B.pl]; exact List.mem_map.mpr ⟨t, mt, rfl⟩)) hi
        have ep : putK (opV l) (.inl i) (.ref t2) = opV (l ++ [(⟨i, a, b, false, none⟩, .ref t2)]) := by
          rw [putK_new _ nov]
          unfold opV
          rw [List.map_append]
          rfl
        have kAll := (k7.trans (Kt.ex (x79.trans xAB))).trans kB
        have dt : Dp K (upd HB pc (.dK (putK (opV l) (.inl i) (.ref t2)))) (.ref t2) (opD ⟨i, a, b, false, none⟩) := kB.dp 3 _ _ (nl_op _) (.tup (st_of (xAB _ _ ht2)) (.cons (.tup (st_of (xAB _ _ (x8b _ _ ht1))) (.cons (.int _) (.cons (.int _) .nil))) (.cons (.bl _) (.cons .non .nil))))
        have oB : ∀ a' u, a' ∉ [o, rd, kn, pc, ev, ot] → H a' = some u → (upd HB pc (.dK (putK (opV l) (.inl i) (.ref t2)))) a' = some u := fun a' u na h => by rw [upd_ne fun z => na (by simp [z])]; exact xAB _ _ (x79 _ _ (o7 a' u na h))
        generalize upd HB pc (.dK (putK (opV l) (.inl i) (.ref t2))) = HC at WB kAll dt oB ⊢
        rw [ep] at WB
        refine ⟨sz_of (by simp), fun t ht => ?_⟩
        have xt := Ex.new ht (o := .tup [.str "", .non])
        refine qo _ (by dsimp only [tdo]; rw [if_neg hi, if_pos hs]) t _ ⟨⟨rd, kn, pc, ev, ot, rkv, kkv, l ++ [(⟨i, a, b, false, none⟩, .ref t2)], ov, OwB.ex (m := { m with pcs := m.pcs ++ [⟨i, a, b, false, none⟩], nums := m.nums ++ [i] }) ⟨by show OwAt HC o rd kn pc ev ot _ ((m.nums ++ [i]).map V.int) _ _ _ _ _; rw [List.map_append]; exact WB, B.di, B.mi, by rw [List.map_append, B.pl]; rfl, fun s ms => ?_, ?_, fun x mx => ?_, kAll.dps B.eg B.dv, B.eg, fun x mx => ?_⟩ xt, fx⟩, off_of fx fun a' u na h => xt _ _ (oB a' u na h)⟩ upd_same
        · rcases List.mem_append.mp ms with ms | ms
          · exact kAll.dp 3 _ _ (nl_op _) (B.pc s ms)
          · rw [List.mem_singleton.mp ms]
            exact dt
        · show ((m.pcs ++ [(⟨i, a, b, false, none⟩ : Pce)]).map (·.num)).Nodup
          rw [List.map_append]
          refine List.nodup_append.mpr ⟨B.pd, (by simp), fun x hx y hy z => ?_⟩
          obtain ⟨w, mw, rfl⟩ := List.mem_map.mp hx
          rw [List.mem_singleton.mp hy] at z
          exact hi ((show w.num = i from z) ▸ B.pn w mw)
        · rcases List.mem_append.mp mx with mx | mx
          · exact B.po x mx
          · rw [List.mem_singleton.mp mx]
            exact ⟨hs.1, hs.2.1, hs.2.2, fun rs e => by cases e⟩
        · rcases List.mem_append.mp mx with mx | mx
          · exact List.mem_append_left _ (B.pn x mx)
          · rw [List.mem_singleton.mp mx]
            exact List.mem_append_right _ List.mem_cons_self
      · refine s_seq (s_if (b := true) (et_is (et_not (et_test c4)) (by rw [decide_eq_false hs]; rfl)) (fun _ H5 x5 => ?_) fun z => by cases z)
        exact ⟨sz_of (by simp), fun t ht => qn .noStretch none (by dsimp only [tdo]; rw [if_neg hi, if_neg hs]) t _ ((x04.trans x5).trans (Ex.new ht)) upd_same⟩
    | answer i d =>
      obtain ⟨u0, us0, rfl, h0, du0⟩ := dps_consT (show DpAll K H us (_ :: _) from du)
      obtain ⟨u1, us1, rfl, h1, du1⟩ := dps_consT du0
      obtain ⟨u2, us2, rfl, h2, du2⟩ := dps_consT du1
      cases h0
      cases h1
      cases du2
      refine q_asg (wd hst) fun H1 x1 => ?_
      refine s_seq (s_if (b := false) (wt rfl (by decide)) (fun z => by cases z) fun _ H2 x2 => s_next ?_)
      refine s_seq (s_if (b := false) (wt rfl (by decide)) (fun z => by cases z) fun _ H3 x3 => s_next ?_)
      have x03 := (x1.trans x2).trans x3
      have B3 := B.ex x03
      have hst3 := Evl.ex_t x03 hst
      rcases opV_val B3 i with ⟨hx, hv⟩ | ⟨t, mt, en, hx, hv⟩
      · refine s_seq (s_if (b := true) (et_is (et_B (ev_dnotin (ev_ix1 (ev_var rfl) hst3) (B3.at'.e_pieces rfl) B3.at'.hp)) (by rw [hv]; rfl)) (fun _ H4 x4 => ?_) fun z => by cases z)
        exact ret_tup (ea_cons ev_c (ea_cons (ev_ix1 (ev_var rfl) (Evl.ex_t x4 hst3)) ea_nil)) fun H5 x5 => ⟨sz_of (by simp), fun t ht => qn .notAsked (some i) (by simp [tdo, hx]) t _ ((x03.trans (x4.trans x5)).trans (Ex.new ht)) upd_same⟩
      refine s_seq (s_if (b := false) (et_is (et_B (ev_dnotin (ev_ix1 (ev_var rfl) hst3) (B3.at'.e_pieces rfl) B3.at'.hp)) (by rw [hv]; rfl)) (fun z => by cases z) fun _ H4 x4 => s_next ?_)
      have B4 := B3.ex x4
      have hst4 := Evl.ex_t x4 hst3
      subst en
      have po : PcOk t.1 := B.po t.1 (by rw [← B.pl]; exact List.mem_map.mpr ⟨t, mt, rfl⟩)
      obtain ⟨ta, w0, w1, w2, e2, hta, d0, d1, d2⟩ := dpt3 (show Dp K H4 t.2 (.tuple [.tuple [.int t.1.lo, .int t.1.hi], .bool t.1.uw, camD t.1.came]) from B4.pc t mt)
      obtain ⟨sa, z0, z1, rfl, hsa, g0, g1⟩ := dpt2 d0
      cases g0
      cases g1
      cases d1
      rw [e2] at hv
      refine s_seq ((ev_dgetI (B4.at'.e_pieces rfl) (ev_ix1 (ev_var rfl) hst4) B4.at'.hp hv) H4 (Ex.refl H4) _ fun H5 x5 => ?_)
      refine ⟨ta, _, rfl, Evl.ex_t x5 hta, rfl, _, _, rfl, _, _, rfl, _, _, rfl, rfl, ?_⟩
      try dsimp only
      have B5 := B4.ex x5
      have hst5 := Evl.ex_t x5 hst4
      have hsa5 := Evl.ex_t x5 hsa
      have d25 := dp_same x5 _ _ d2
      have x05 := x03.trans (x4.trans x5)
      have ll : (opV l).length ≤ 10000 := by
        unfold opV
        rw [List.length_map, ← List.length_map (f := (·.1)), B.pl]
        exact few.pl
      refine s_seq (s_if (b := false) (wt rfl (by decide)) (fun z => by cases z) fun _ H6 x6 => s_next ?_)
      have x06 := x05.trans x6
      have hst6 := Evl.ex_t x6 hst5
      have B6 := B5.ex x6
      have d26 := dp_same x6 _ _ d25
      have hsa6 := Evl.ex_t x6 hsa5
      have tn : EvT (tTest (tOp rNotN (tVar 5) (tC .non))) [some (.ref o), some (.ref st), some (.str "answer"), some (.ref sa), some (.bl t.1.uw), some w2, none] H6 (!decide (w2 = .non)) := et_test (ev_op (ev_var rfl) ev_c fun G _ Q' q' => ⟨rfl, q' G (Ex.refl G)⟩)
      cases hcm : t.1.came with
      | some rs0 =>
        rw [hcm] at d26
        have wn : w2 ≠ .non := by
          cases (show Dp K H6 w2 (rowsD rs0) from d26) with
          | tup _ _ => exact fun z => by cases z
        refine s_seq (s_if (b := true) (et_is tn (by rw [decide_eq_false wn]; rfl)) (fun _ H7 x7 => ?_) fun z => by cases z)
        exact ⟨sz_of (by simp), fun t' ht => qn .twice none (by simp [tdo, hx, hcm]) t' _ ((x06.trans x7).trans (Ex.new ht)) upd_same⟩
      | none =>
        rw [hcm] at d26
        cases d26
        refine s_seq (s_if (b := false) (et_is tn (by simp)) (fun z => by cases z) fun _ H7 x7 => s_next ?_)
        have x07 := x06.trans x7
        have hst7 := Evl.ex_t x7 hst6
        have h27 := dp_same x07 _ _ h2
        have tp : EvT (tNot (tB (tCall (spToldS K arePairs) [] E0 (tCons (tOp (rIxT K) (tVar 1) (tC (.int 2))) tNil)))) [some (.ref o), some (.ref st), some (.str "answer"), some (.ref sa), some (.bl t.1.uw), some .non, none] H7 (!arePairs d) := et_not (et_B (ev_toldS (ev_ix2 (ev_var rfl) hst7) h27 (sho _ _ rfl)))
        cases hap : arePairs d with
        | false =>
          rw [hap] at tp
          refine s_seq (s_if (b := true) tp (fun _ H8 x8 => ?_) fun z => by cases z)
          have rn : rowsB t.1.lo t.1.hi d = false := rowsB_no po.a hap
          exact ⟨sz_of (by simp), fun t' ht => qn .noRows none (by simp [tdo, hx, hcm, rn]) t' _ ((x07.trans x8).trans (Ex.new ht)) upd_same⟩
        | true =>
          rw [hap] at tp
          refine s_seq (s_if (b := false) tp (fun z => by cases z) fun _ H8 x8 => s_next ?_)
          have x08 := x07.trans x8
          have hst8 := Evl.ex_t x8 hst7
          have hsa8 := Evl.ex_t (x7.trans x8) hsa6
          have h28 := dp_same x8 _ _ h27
          obtain ⟨ds, rfl⟩ : ∃ ds, d = .tuple ds := by
            cases d with
            | tuple ds => exact ⟨ds, rfl⟩
            | _ => cases hap
          have hsh := sho _ _ rfl ds rfl
          cases h28 with
          | @tup pa xs _ hxs hA =>
            have xl := dps_len hA
            have hrow := rising_rows ds 0 hap
            have tc : EvT (tTest (tOp (rNeE K) (tLc (iTup K (tOp (rIxT K) (tVar 1) (tC (.int 2)))) (gName 6) (tNot (tTest (tChain (rI0 fun i j => .bl (decide (i ≤ j))) (rI0 fun i j => .bl (decide (i < j))) (tOp (rIxT K) (tVar 3) (tC (.int 0))) (tOp (rIxT K) (tVar 6) (tC (.int 0))) (tOp (rIxT K) (tVar 3) (tC (.int 1)))))) (tVar 6) [6]) (tLst tNil))) [some (.ref o), some (.ref st), some (.str "answer"), some (.ref sa), some (.bl t.1.uw), some .non, none] H8 (!(given xs.length (fun n => !(decide (t.1.lo ≤ keyOf (ds.getD n .none)) && decide (keyOf (ds.getD n .none) < t.1.hi))) (fun n => xs.getD n .non)).isEmpty) := et_test (ev_opLL (z := .bl (!(given xs.length (fun n => !(decide (t.1.lo ≤ keyOf (ds.getD n .none)) && decide (keyOf (ds.getD n .none) < t.1.hi))) (fun n => xs.getD n .non)).isEmpty)) (el_lcT (K := K) (a := pa) (xs := xs) _ _ (ev_ix2 (ev_var rfl) hst8) hxs (by omega) (fun z => rfl) (fun n u G xg hn => by
                obtain ⟨dd, hd, hu⟩ := dps_at (dps_same xg _ _ hA) hn
                have eg : ds.getD n .none = dd := by rw [List.getD_eq_getElem?_getD, hd]; rfl
                rw [eg]
                obtain ⟨b, kk, z, rfl, rfl, hb2, _⟩ := row_dp hu (hrow dd (List.mem_of_getElem? hd))
                exact et_not (et_test (ev_chain (p := fun i j => decide (i ≤ j)) (p' := fun i j => decide (i < j)) (ev_ix0 (ev_var rfl) (Evl.ex_t xg hsa8)) (ev_ix0 (ev_var rfl) hb2) (ev_ix1 (ev_var rfl) (Evl.ex_t xg hsa8))))) (fun n u G xg hn _ => ev_is (ev_var rfl) (by rw [List.getD_eq_getElem?_getD, hn]; rfl))) (el_lst ea_nil (by decide)) fun p r H1 hp hr x1 H2 x2 Q q => ⟨p, r, _, rfl, rfl, sq_of (x2 p _ hp), sq_of (x2 r _ hr), q H2 (Ex.refl H2)⟩)
            have ge := given_emptyB (fun d => decide (t.1.lo ≤ keyOf d) && decide (keyOf d < t.1.hi)) (fun n => xs.getD n .non) xl
            rw [ge] at tc
            have rs := rowsB_split (hi := t.1.hi) po.a ds
            rw [hap, Bool.true_and] at rs
            rw [← rs] at tc
            cases hrb : rowsB t.1.lo t.1.hi (.tuple ds) with
            | false =>
              rw [hrb] at tc
              refine s_seq (s_if (b := true) tc (fun _ H9 x9 => ?_) fun z => by cases z)
              exact ⟨sz_of (by simp), fun t' ht => qn .noRows none (by simp [tdo, hx, hcm, hrb]) t' _ ((x08.trans x9).trans (Ex.new ht)) upd_same⟩
            | true =>
              rw [hrb] at tc
              refine s_seq (s_if (b := false) tc (fun z => by cases z) fun _ H9 x9 => s_next ?_)
              have x09 := x08.trans x9
              have hst9 := Evl.ex_t x9 hst8
              have hsa9 := Evl.ex_t x9 hsa8
              obtain ⟨rws, erw, rin, rup⟩ := rowsB_rs po.a hrb
              refine s_seq ⟨_, rfl, _, rfl, ev_ix2 (ev_var rfl) hst9 H9 (Ex.refl H9) _ fun HA xA => ⟨sz_of (by simp), fun t2' n2 => ?_⟩⟩
              have xt := Ex.new n2 (o := .tup [.ref sa, .bl t.1.uw, .ref pa])
              have ht2 : (upd HA t2' (.tup [.ref sa, .bl t.1.uw, .ref pa])) t2' = some (.tup [.ref sa, .bl t.1.uw, .ref pa]) := upd_same
              generalize upd HA t2' (.tup [.ref sa, .bl t.1.uw, .ref pa]) = HB at xt ht2 ⊢
              have x9B := xA.trans xt
              have BB := B.ex (x09.trans x9B)
              refine BB.at'.e_pieces (i := 0) rfl HB (Ex.refl HB) _ fun HC xC => ev_ix1 (ev_var rfl) (Evl.ex_t (x9B.trans xC) hst9) HC (Ex.refl HC) _ fun HD xD => ⟨pc, _, rfl, DPut.k (k := .inl t.1.num) ((xC.trans xD) _ _ BB.at'.hp) (sz_lt (by omega)), ?_⟩
              have xBD := xC.trans xD
              have BD := BB.ex xBD
              have x0D := (x09.trans x9B).trans xBD
              have kp := BD.at'.kt_pc (u := .dK (putK (opV l) (.inl t.1.num) (.ref t2')))
              have dA : Dp K HD (.ref pa) (rowsD rws) := by
                rw [← erw]
                exact dp_same x0D _ _ h2
              obtain ⟨l2, BE⟩ := BD.pmap (g := cmP rws) mt (fun x => rfl) ⟨po.a, po.b, po.c, fun rs' er => by cases er; exact ⟨rin, rup⟩⟩ BD.at'.put_pc kp (kp.dp 3 _ _ (nl_op _) (show Dp K HD (.ref t2') (.tuple [.tuple [.int t.1.lo, .int t.1.hi], .bool t.1.uw, rowsD rws]) from .tup (st_of (xBD _ _ ht2)) (.cons (.tup (Evl.ex_t (x9B.trans xBD) hsa9) (.cons (.int _) (.cons (.int _) .nil))) (.cons (.bl _) (.cons dA .nil)))))
              have oE : ∀ a' u, a' ∉ [o, rd, kn, pc, ev, ot] → H a' = some u → (upd HD pc (.dK (putK (opV l) (.inl t.1.num) (.ref t2')))) a' = some u := fun a' u na h => by rw [upd_ne fun z => na (by simp [z])]; exact x0D _ _ h
              generalize upd HD pc (.dK (putK (opV l) (.inl t.1.num) (.ref t2'))) = HE at BE oE ⊢
              refine ⟨sz_of (by simp), fun t' ht => ?_⟩
              have xt' := Ex.new ht (o := .tup [.str "", .non])
              exact qo _ (by simp [tdo, hx, hcm, hrb]; rfl) t' _ ⟨⟨rd, kn, pc, ev, ot, rkv, kkv, l2, ov, (by rw [erw, rows_ofD]; exact BE.ex xt'), fx⟩, off_of fx fun a' u na h => xt' _ _ (oE a' u na h)⟩ upd_same
    | give i =>
      obtain ⟨u0, us0, rfl, h0, du0⟩ := dps_consT (show DpAll K H us (_ :: _) from du)
      obtain ⟨u1, us1, rfl, h1, du1⟩ := dps_consT du0
      cases h0
      cases h1
      cases du1
      refine q_asg (wd hst) fun H1 x1 => ?_
      refine s_seq (s_if (b := false) (wt rfl (by decide)) (fun z => by cases z) fun _ H2 x2 => s_next ?_)
      refine s_seq (s_if (b := false) (wt rfl (by decide)) (fun z => by cases z) fun _ H3 x3 => s_next ?_)
      have x03 := (x1.trans x2).trans x3
      have B3 := B.ex x03
      have hst3 := Evl.ex_t x03 hst
      rcases opV_val B3 i with ⟨hx, hv⟩ | ⟨t, mt, en, hx, hv⟩
      · refine s_seq (s_if (b := true) (et_is (et_B (ev_dnotin (ev_ix1 (ev_var rfl) hst3) (B3.at'.e_pieces rfl) B3.at'.hp)) (by rw [hv]; rfl)) (fun _ H4 x4 => ?_) fun z => by cases z)
        exact ret_tup (ea_cons ev_c (ea_cons (ev_ix1 (ev_var rfl) (Evl.ex_t x4 hst3)) ea_nil)) fun H5 x5 => ⟨sz_of (by simp), fun t ht => qn .notAsked (some i) (by simp [tdo, hx]) t _ ((x03.trans (x4.trans x5)).trans (Ex.new ht)) upd_same⟩
      refine s_seq (s_if (b := false) (et_is (et_B (ev_dnotin (ev_ix1 (ev_var rfl) hst3) (B3.at'.e_pieces rfl) B3.at'.hp)) (by rw [hv]; rfl)) (fun z => by cases z) fun _ H4 x4 => s_next ?_)
      have B4 := B3.ex x4
      have hst4 := Evl.ex_t x4 hst3
      subst en
      have po : PcOk t.1 := B.po t.1 (by rw [← B.pl]; exact List.mem_map.mpr ⟨t, mt, rfl⟩)
      obtain ⟨ta, w0, w1, w2, e2, hta, d0, d1, d2⟩ := dpt3 (show Dp K H4 t.2 (.tuple [.tuple [.int t.1.lo, .int t.1.hi], .bool t.1.uw, camD t.1.came]) from B4.pc t mt)
      obtain ⟨sa, z0, z1, rfl, hsa, g0, g1⟩ := dpt2 d0
      cases g0
      cases g1
      cases d1
      rw [e2] at hv
      refine s_seq ((ev_dgetI (B4.at'.e_pieces rfl) (ev_ix1 (ev_var rfl) hst4) B4.at'.hp hv) H4 (Ex.refl H4) _ fun H5 x5 => ?_)
      refine ⟨ta, _, rfl, Evl.ex_t x5 hta, rfl, _, _, rfl, _, _, rfl, _, _, rfl, rfl, ?_⟩
      try dsimp only
      have B5 := B4.ex x5
      have hst5 := Evl.ex_t x5 hst4
      have hsa5 := Evl.ex_t x5 hsa
      have d25 := dp_same x5 _ _ d2
      have x05 := x03.trans (x4.trans x5)
      have ll : (opV l).length ≤ 10000 := by
        unfold opV
        rw [List.length_map, ← List.length_map (f := (·.1)), B.pl]
        exact few.pl
      refine s_seq (s_if (b := true) (wt rfl (by decide)) (fun _ H6 x6 => ?_) fun z => by cases z)
      have B6 := B5.ex x6
      have hst6 := Evl.ex_t x6 hst5
      refine s_seq (s_dpop (k := .inl t.1.num) (B6.at'.e_pieces rfl) (ev_ix1 (ev_var rfl) hst6) B6.at'.hp hv fun H7 x7 => ?_)
      have B7 := B6.ex x7
      have x07 := (x05.trans x6).trans x7
      have kp := B7.at'.kt_pc (u := .dK (dropK (opV l) (.inl t.1.num)))
      obtain ⟨l2, BB⟩ := B7.pdel t.1.num B7.at'.put_pc kp B7.di B7.mi (kp.dps B7.eg B7.dv) B7.eg
      refine ⟨sz_of (by simp), fun t' ht => ?_⟩
      have xt := Ex.new ht (o := .tup [.str "", .non])
      exact qo _ (by simp [tdo, hx]) t' _ ⟨⟨rd, kn, pc, ev, ot, rkv, kkv, l2, ov, BB.ex xt, fx⟩, off_of fx fun a' u na h => xt _ _ (by rw [upd_ne fun z => na (by simp [z])]; exact x07 _ _ h)⟩ upd_same
end
end K27
namespace K27
open PySem L2 L2H PyProof.Rows Tc Evl
theorem MI.keysL {kvs : List (Key × V)} {S : Int → Prop} (h : MI allK kvs S) : ∃ ks : List Int, kvs.map (·.1) = ks.map Sum.inl ∧ ks.length ≤ 1000 := by
  obtain ⟨ks, hks⟩ : ∃ ks : List Int, kvs.map (·.1) = ks.map Sum.inl := by
    have hi := h.inn
    clear h
    induction kvs with
    | nil => exact ⟨[], rfl⟩
    | cons p kvs ih =>
      obtain ⟨ks, e⟩ := ih fun q m => hi q (List.mem_cons_of_mem _ m)
      obtain ⟨k, _, e'⟩ := hi p List.mem_cons_self
      exact ⟨k :: ks, by rw [List.map_cons, List.map_cons, e, e']⟩
  refine ⟨ks, hks, ?_⟩
  have := h.len
  rw [← List.length_map (f := (·.1)), hks, List.length_map] at this
  rw [show allK.length = 1000 from allKs_len] at this
  exact this
theorem eqv_rows : ∀ rs : List (Int × Int), PyData.eqvAll (rs.map Tc.pairD) (rs.map Tc.pairD) = true
  | [] => rfl
  | r :: rs => by
    rw [List.map_cons, PyData.eqvAll, eqv_rows rs]
    simp [Tc.pairD, PyData.eqv, PyData.eqvAll]
theorem eqv_same (rs : List (Int × Int)) : PyData.eqv (rowsD rs) (rowsD rs) = true := by
  unfold rowsD
  rw [PyData.eqv]
  exact eqv_rows rs
theorem shaped_rows (rs : List (Int × Int)) : SeqAt.shaped (rowsD rs) = true := by
  have h : ∀ a : List (Int × Int), PyData.canLayAll0 (a.map Tc.pairD) = true ∧ PyData.depthAll (a.map Tc.pairD) ≤ 2 := by
    intro a
    induction a with
    | nil => exact ⟨rfl, by decide⟩
    | cons n a ih =>
      have e : PyData.depth (Tc.pairD n) = 1 := rfl
      exact ⟨by rw [List.map_cons, PyData.canLayAll0, ih.1]; rfl, by rw [List.map_cons, PyData.depthAll, e]; omega⟩
  unfold SeqAt.shaped rowsD
  have h1 := h rs
  rw [PyData.canLay0, h1.1, PyData.depth, decide_eq_true (by omega)]
  rfl
section
variable {K : PySem.W.Frag} {σ : L2.St} {H : Hp} {ta tb : TE} {d : PyData}
/-- a thing of this data, perhaps a new one -/
def EvD (K : PySem.W.Frag) (te : TE) (σ : L2.St) (H : Hp) (d : PyData) : Prop := ∀ H1, Ex H H1 → ∀ Q : VK, (∀ v H2, Ex H1 H2 → Dp K H2 v d → Q v H2) → te σ H1 Q
theorem EvD.of {v : V} (h : Ev ta σ H v) (hd : Dp K H v d) : EvD K ta σ H d := fun H1 x1 Q q => h H1 x1 Q fun H2 x2 => q v H2 x2 (dp_same (x1.trans x2) _ _ hd)
theorem EvD.same {H' : Hp} (h : EvD K ta σ H d) (x : Ex H H') : EvD K ta σ H' d := fun H1 x1 => h H1 (x.trans x1)
theorem et_neD (ha : EvD K ta σ H d) (hb : EvD K tb σ H d) (hs : SeqAt.shaped d = true) (he : PyData.eqv d d = true) : EvT (tTest (tOp (rNeD K) ta tb)) σ H false := fun H1 x1 Q q =>
  ha H1 x1 _ fun v H2 x2 d1 => hb H2 (x1.trans x2) _ fun u H3 x3 d2 => ⟨d, d, dp_same x3 _ _ d1, d2, hs, hs, by
    rw [he]
    exact ⟨false, rfl, q H3 (x2.trans x3)⟩⟩
theorem ev_eqD (ha : EvD K ta σ H d) (hb : EvD K tb σ H d) (hs : SeqAt.shaped d = true) (he : PyData.eqv d d = true) : Ev (tOp (rEqD K) ta tb) σ H (.bl true) := fun H1 x1 Q q =>
  ha H1 x1 _ fun v H2 x2 d1 => hb H2 (x1.trans x2) _ fun u H3 x3 d2 => ⟨d, d, dp_same x3 _ _ d1, d2, hs, hs, by
    rw [he]
    exact q H3 (x2.trans x3)⟩
end
theorem di_mem {ks : List Int} {kvs : List (Key × V)} {f : Int → Option Int} (h : DI ks kvs f) {k : Int} (e : (f k).isSome = true) : k ∈ ks := by
  have hv : (valV kvs (.inl k)).isSome = true := by rw [h.val, Option.isSome_map]; exact e
  obtain ⟨p, hp, e1⟩ := List.mem_map.mp (valV_memI.mpr hv)
  obtain ⟨j, hj, e2⟩ := h.inn p hp
  exact (Sum.inl.inj (e1.symm.trans e2)) ▸ hj
theorem MI.keysS {kvs : List (Key × V)} {f : Kn} (h : MI allK kvs fun k => (f k).isSome = true) : ∃ ks : List Int, kvs.map (·.1) = ks.map Sum.inl ∧ ks.length ≤ 1000 ∧ ∀ ms : List Int, ms.Perm ks → ms.Pairwise (· ≤ ·) → ms = sureL f := by
  obtain ⟨ks, hks, kl⟩ := h.keysL
  have nd : ks.Nodup := by
    have := h.nd
    rw [hks] at this
    rw [List.Nodup, List.pairwise_map] at this
    exact this.imp fun z e => z (by rw [e])
  refine ⟨ks, hks, kl, fun ms pm pw => ?_⟩
  have pS : (sureL f).Pairwise (· < ·) := by
    unfold sureL
    rw [List.pairwise_map]
    exact (List.pairwise_lt_range.filter _).imp fun {a b} z => by omega
  have nS : (sureL f).Nodup := pS.imp fun {a b} z e => by omega
  have mem : ∀ k, k ∈ ks ↔ k ∈ sureL f := fun k => by
    have h1 : k ∈ ks ↔ (valV kvs (.inl k)).isSome = true := by
      rw [← valV_memI, hks, List.mem_map]
      exact ⟨fun m => ⟨k, m, rfl⟩, fun ⟨j, m, e⟩ => (Sum.inl.inj e) ▸ m⟩
    rw [h1, h.has]
    unfold sureL
    rw [List.mem_map]
    constructor
    · intro z
      obtain ⟨p, hp, e⟩ := List.mem_map.mp (valV_memI.mpr ((h.has k).mpr z))
      obtain ⟨j, hj, e'⟩ := h.inn p hp
      obtain ⟨n, hn, e2⟩ := List.mem_map.mp hj
      have hl := List.mem_range.mp hn
      have e3 : ((n : Nat) : Int) = j := e2
      have ejk : k = j := Sum.inl.inj (e.symm.trans e')
      refine ⟨n, List.mem_filter.mpr ⟨hn, ?_⟩, by omega⟩
      rw [e3, ← ejk]
      exact z
    · rintro ⟨i, m, rfl⟩
      exact (List.mem_filter.mp m).2
  have p2 : (sureL f).Pairwise (· ≤ ·) := pS.imp fun {a b} z => by omega
  exact (pm.trans ((List.perm_ext_iff_of_nodup nd nS).mpr mem)).eq_of_pairwise (fun a b _ _ x y => by omega) pw p2
abbrev sTs : Stmt := topS 69
theorem scTs : FnScope ["taker", "own", "asked", "number", "stretch", "way", "rows", "told", "sure"] ["taker", "own"] (defScope sTs) := ⟨rfl, rfl, rfl, by decide +kernel, rfl, by decide +kernel, by decide +kernel⟩
def spTs (K : PySem.W.Frag) (C Cp : Addr) : Sp := fun vs H Q _ => ∃ (p o : Addr) (m : TM) (X Y : Addr → Prop), vs = [.ref p, .ref o] ∧ TkM K C Cp H p m X ∧ OwM K H o m Y ∧ TFew m ∧ (∀ e ∈ m.ev, sd 1 e = true) ∧ ∀ H', Ex H H' → Q (.bl true) H'
theorem sd_ask (m : TM) (n : Int) : sd 3 (askD m n) = true := by
  unfold askD
  cases pcOf m n with
  | none => rfl
  | some x => rfl
theorem sd_askL (m : TM) (js : List Int) : sd 4 (.list (js.map (askD m))) = true := List.all_eq_true.mpr fun d md => by
  obtain ⟨n, _, rfl⟩ := List.mem_map.mp md
  exact sd_ask m n
theorem sd_evL {es : List PyData} (h : ∀ e ∈ es, sd 1 e = true) : sd 2 (.list es) = true := List.all_eq_true.mpr h
theorem sd_sv3 (a : Int) (r s : List (Int × Int)) : sd 3 (.tuple [.int a, rowsD r, rowsD s]) = true := by
  show (true && (sd 2 (rowsD r) && (sd 2 (rowsD s) && true))) = true
  rw [sd_rows, sd_rows]
  rfl
section
variable {P : Program} {w : World} {K : PySem.W.Frag} {mg : Str → Option Value} {base : Heap}
set_option maxHeartbeats 4000000 in
theorem ok_ts {f C Cp fLi fPl fR fS fSv fAs fEv fN : Addr} {fd fdLi fdPl fdR fdS fdSv fdAs fdEv fdN : FuncData} {kPs kSp kLi kPl kR kS kSv kAs kEv kN k : Nat} (F : Fun K "_law_taker_so" "_law_taker_so" sTs f fd) (T : Txt K mg C) (N : Names mg) (FLi : FnOk P w K mg base CX0 kLi fLi fdLi ["self"] (spOne C fun life _ => .int life)) (bLi : Binds K fdLi ["self"] []) (mLi : Meth K C "life" fLi) (hLi : kLi ≤ k) (FPl : FnOk P w K mg base CX0 kPl fPl fdPl ["self"] (spOne C fun _ a => .int a)) (bPl : Binds K fdPl ["self"] []) (mPl : Meth K C "place" fPl) (hPl : kPl ≤ k) (FR : FnOk P w K mg base CX0 kR fR fdR ["self"] (spRows K C)) (bR : Binds K fdR ["self"] []) (mR : Meth K C "rows" fR) (hR : kR ≤ k) (FS : FnOk P w K mg base CX0 kS fS fdS ["self"] (spSureM K C)) (bS : Binds K fdS ["self"] []) (mS : Meth K C "sure" fS) (hS : kS ≤ k) (FSv : FnOk P w K mg base CX0 kSv fSv fdSv ["self"] (spSaved K C)) (bSv : Binds K fdSv ["self"] []) (mSv : Meth K C "saved" fSv) (hSv : kSv ≤ k) (FAs : FnOk P w K mg base CX0 kAs fAs fdAs ["self"] (spAskedM K C Cp)) (bAs : Binds K fdAs ["self"] []) (mAs : Meth K C "asked" fAs) (hAs : kAs ≤ k) (FEv : FnOk P w K mg base CX0 kEv fEv fdEv ["self"] (spEvents K C)) (bEv : Binds K fdEv ["self"] []) (mEv : Meth K C "events" fEv) (hEv : kEv ≤ k) (FN : FnOk P w K mg base CX0 kN fN fdN ["self"] (spLen K C)) (bN : Binds K fdN ["self"] []) (mN : Meth K C "__len__" fN) (hN : kN + 1 ≤ k) (dPs : Own P w K mg base "_law_pairs" ["rows"] kPs (spPairs K)) (hPs : kPs ≤ k) (dSp : Own P w K mg base "_law_spans" ["keys"] kSp (spSpans K)) (hSp : kSp ≤ k) : FnOk P w K mg base CX0 (k + 1) f fd ["taker", "own"] (spTs K C Cp) := by
  refine F.ok scTs (fun vs H Q E h => ?_) (fun cdv A outer s H vs Q E hr h => ?_)
  · obtain ⟨p, o, m, X, Y, rfl, _⟩ := h
    rfl
  · obtain ⟨p, o, m, X, Y, rfl, S, W, few, hev, q⟩ := h
    refine ⟨_, (pss_cons (ps_set (i := 2) scTs.nd rfl (.inl rfl) (pe_lst pa_nil))
      (pss_cons (ps_for PassesOwn.never rfl (pi_list (pe_callB (cr_sortedDA rfl) (by rfl) N.sorted boot_sorted (pa_cons (pe_dget (hu_of hr) (pv 1) pe_str (fun _ _ => rfl)) pa_nil))) (pg_name (i := 3) scTs.nd rfl (.inl rfl)) (pss_cons (ps_asg (pe_dget (hu_of hr) (pe_dget (hu_of hr) (pv 1) pe_str (fun _ _ => rfl)) (pv 3) (fun _ _ => rfl)) (pg_tup rfl (pgs_cons (pg_name (i := 4) scTs.nd rfl (.inl rfl)) (pgs_cons (pg_name (i := 5) scTs.nd rfl (.inl rfl)) (pgs_cons (pg_name (i := 6) scTs.nd rfl (.inl rfl)) pgs_nil)))))
      (pss_one (ps_expr (pe_bm PySem.F.plainAttrs_list PySem.F.slot_list_append PySem.F.type_list_append mt_append (pv 2) (pa_cons (pe_tup (pa_cons (pv 3) (pa_cons (pv 4) (pa_cons (pv 5) (pa_cons (pe_cmpR op_notN1 (pv 6) pe_non (nomark _)) pa_nil))))) pa_nil))))))
      (pss_cons (ps_set (i := 6) scTs.nd rfl (.inl rfl) (pe_own dPs hr hPs (by rfl) (pa_cons (pe_dget (hu_of hr) (pv 1) pe_str (fun _ _ => rfl)) pa_nil)))
      (pss_cons (ps_set (i := 7) scTs.nd rfl (.inl rfl) (pe_lst (pa_cons (pe_meth0 (pv 0) T.cl mLi FLi (hr.mono hLi) bLi .nil pass0) (pa_cons (pe_meth0 (pv 0) T.cl mPl FPl (hr.mono hPl) bPl .nil pass0) (pa_cons (pe_callB (cr_lenO (hr.mono hN) mN FN bN) (by rfl) N.len PySem.boot_len (pa_cons (pv 0) pa_nil)) pa_nil)))))
      (pss_cons (ps_if (pt_cmpR (op_neD hr.units) (pv 7) (pe_lst (pa_cons (pe_dget (hu_of hr) (pv 1) pe_str (fun _ _ => rfl)) (pa_cons (pe_dget (hu_of hr) (pv 1) pe_str (fun _ _ => rfl)) (pa_cons (pe_callB call_len_seq (by rfl) N.len PySem.boot_len (pa_cons (pv 6) pa_nil)) pa_nil)))) (nomark _)) (pss_one (ps_ret pe_bl)) pss_nil)
      (pss_cons (ps_set (i := 8) scTs.nd rfl (.inl rfl) (pe_own dSp hr hSp (by rfl) (pa_cons (pe_dget (hu_of hr) (pv 1) pe_str (fun _ _ => rfl)) pa_nil)))
      (pss_cons (ps_if (PW.pt (pw_or (pt_cmpR (op_neD hr.units) (pe_meth0 (pv 0) T.cl mR FR (hr.mono hR) bR .nil pass0) (pv 6) (nomark _)) (pw_or1 (pt_cmpR (op_neD hr.units) (pe_meth0 (pv 0) T.cl mS FS (hr.mono hS) bS .nil pass0) (pv 8) (nomark _))))) (pss_one (ps_ret pe_bl)) pss_nil)
      (pss_cons (ps_if (pt_cmpR (op_neD hr.units) (pe_meth0 (pv 0) T.cl mSv FSv (hr.mono hSv) bSv .nil pass0) (pe_tup (pa_cons (pe_dget (hu_of hr) (pv 1) pe_str (fun _ _ => rfl)) (pa_cons (pv 6) (pa_cons (pv 8) pa_nil)))) (nomark _)) (pss_one (ps_ret pe_bl)) pss_nil)
      (pss_one (ps_ret (pe_and (pe_cmpR (op_eqD hr.units) (pe_meth0 (pv 0) T.cl mAs FAs (hr.mono hAs) bAs .nil pass0) (pv 2) (nomark _)) (pe_one (pe_cmpR (op_eqD hr.units) (pe_meth0 (pv 0) T.cl mEv FEv (hr.mono hEv) bEv .nil pass0) (pe_dget (hu_of hr) (pv 1) pe_str (fun _ _ => rfl)) (nomark _)))))))))))))), ?_⟩
    obtain ⟨rd, kn, pc, ev, ot, rkv, kkv, l, ov, B, fx⟩ := W
    refine s_seq ⟨Nat.zero_le _, fun aL hL => g_name ?_⟩
    dsimp only
    have x1 : Ex H (upd H aL (.lst [])) := Ex.new hL
    have h1 : (upd H aL (.lst [])) aL = some (.lst []) := upd_same
    generalize hH1 : upd H aL (.lst []) = H1 at x1 h1
    have B1 := B.ex x1
    have ek : (opV l).map (·.1) = (m.pcs.map (·.num)).map Sum.inl := by
      unfold opV
      rw [← B.pl, List.map_map, List.map_map, List.map_map]
      rfl
    refine s_seq (B1.at'.e_pieces (i := 1) rfl H1 (Ex.refl H1) _ fun H2 x2 => ⟨pc, opV l, m.pcs.map (·.num), rfl, .inl (x2 _ _ B1.at'.hp), ek, fun ms ll pm pw hl => ⟨ll, rfl, ⟨_, sq_of upd_same⟩, ?_⟩⟩)
    have x3 := Ex.new hl (o := .lst (ms.map V.int))
    have hll : (upd H2 ll (.lst (ms.map V.int))) ll = some (.lst (ms.map V.int)) := upd_same
    generalize upd H2 ll (.lst (ms.map V.int)) = H3 at x3 hll ⊢
    have x13 := x2.trans x3
    have B3 := B1.ex x13
    have S3 := S.ex (x1.trans x13)
    have h3 := x13 _ _ h1
    have llL : ll ≠ aL := fun z => by
      rw [z, x2 _ _ h1] at hl
      cases hl
    have freeL : ∀ a, NoT H a → a ≠ aL := fun a h z => by
      obtain ⟨u, e, _⟩ := h
      rw [z, hL] at e
      cases e
    have mlen : ms.length ≤ 10000 := by
      rw [pm.length_eq, List.length_map]
      exact few.pl
    have mst : ms.Pairwise (· < ·) := lt_of_le_nodup pw (pm.nodup_iff.mpr B.pd)
    refine for_list (K := K) (a := ll) (xs := ms.map V.int) (fun j σ' G => ∃ y3 y4 y5 y6 us, σ' = [some (.ref p), some (.ref o), some (.ref aL), y3, y4, y5, y6, none, none] ∧ Bar aL H3 G ∧ Kt H3 G ∧ G aL = some (.lst us) ∧ us.length ≤ j ∧ DpAll K G us ((ms.take j).map (askD m))) ⟨none, none, none, none, [], rfl, Bar.refl aL H3, Kt.ex (Ex.refl H3), h3, Nat.le_refl _, .nil⟩ (fun j σ' G _ ⟨_, _, _, _, _, _, b, _⟩ => sq_of (b _ _ llL hll)) (fun j x σ' G hx pj => ?_) (fun σ' G pj => ?_)
    · obtain ⟨y3, y4, y5, y6, us, rfl, bG, kG, hG, ul, dG⟩ := pj
      rw [List.getElem?_map] at hx
      obtain ⟨n, hn, rfl⟩ := Option.map_eq_some_iff.mp hx
      have mn := List.mem_of_getElem? hn
      have jl := (List.getElem?_eq_some_iff.mp hn).1
      have BG := B3.keep (fun a u ha h => bG a u (freeL a (B.at'.noT a ha)) h) kG
      refine g_name ?_
      try dsimp only
      rcases opV_val BG n with ⟨hx0, hv⟩ | ⟨t, mt, en, hx0, hv⟩
      · exfalso
        have := pm.mem_iff.mp mn
        obtain ⟨x, mx, ex⟩ := List.mem_map.mp this
        unfold pcOf at hx0
        exact List.find?_eq_none.mp hx0 x mx (decide_eq_true ex)
      subst en
      obtain ⟨ta, w0, w1, w2, e2, hta, d0, d1, d2⟩ := dpt3 (show Dp K G t.2 (.tuple [.tuple [.int t.1.lo, .int t.1.hi], .bool t.1.uw, camD t.1.came]) from BG.pc t mt)
      obtain ⟨sa, z0, z1, rfl, hsa, g0, g1⟩ := dpt2 d0
      cases g0
      cases g1
      cases d1
      rw [e2] at hv
      refine s_seq ((ev_dgetI (BG.at'.e_pieces rfl) (ev_var rfl) BG.at'.hp hv) G (Ex.refl G) _ fun G5 x5 => ?_)
      refine ⟨ta, _, rfl, Evl.ex_t x5 hta, rfl, _, _, rfl, _, _, rfl, _, _, rfl, rfl, ?_⟩
      try dsimp only
      have wn : (!decide (w2 = .non)) = t.1.came.isSome := by
        cases hcm : t.1.came with
        | none =>
          rw [hcm] at d2
          cases d2
          rfl
        | some rs =>
          rw [hcm] at d2
          cases (show Dp K G w2 (rowsD rs) from d2) with
          | tup _ _ => rfl
      have evn : ∀ {σ : L2.St} {G' : Hp}, σ[6]? = some (some w2) → Ev (tOp rNotN (tVar 6) (tC .non)) σ G' (.bl t.1.came.isSome) := fun h => by
        rw [← wn]
        exact ev_op (ev_var h) ev_c fun G _ Q' q' => ⟨rfl, q' G (Ex.refl G)⟩
      refine s_appU (l := aL) (x5 _ _ hG) (ev_var rfl) (eu_tup (ea_cons (ev_var rfl) (ea_cons (ev_var rfl) (ea_cons (ev_var rfl) (ea_cons (evn rfl) ea_nil)))) (by simp)) (by omega) fun tt G6 nt x6 ht => ?_
      have hG6 := x6 _ _ (x5 _ _ hG)
      have bp : Bar aL G6 (upd G6 aL (.lst (us ++ [.ref tt]))) := (Bar.refl aL G6).put
      have kp := kt_put (ws := us ++ [.ref tt]) hG6
      have tk : ms.take (j + 1) = ms.take j ++ [t.1.num] := by
        rw [List.take_succ, hn]
        rfl
      have ea : askD m t.1.num = pcD t.1 := by
        unfold askD
        rw [hx0]
      refine ⟨_, _, _, _, us ++ [.ref tt], rfl, (bG.trans (Bar.ex (x5.trans x6))).trans bp, (kG.trans (Kt.ex (x5.trans x6))).trans kp, upd_same, by rw [List.length_append, List.length_cons, List.length_nil]; omega, ?_⟩
      rw [tk, List.map_append, List.map_cons, List.map_nil, ea]
      refine kp.dps (n := 2) (fun d md => ?_) (dps_app (dps_same (x5.trans x6) _ _ dG) (.cons (.tup (st_of ht) (.cons (.int _) (.cons (.tup (Evl.ex_t (x5.trans x6) hsa) (.cons (.int _) (.cons (.int _) .nil))) (.cons (.bl _) (.cons (.bl _) .nil))))) .nil))
      rcases List.mem_append.mp md with md | md
      · obtain ⟨n, _, rfl⟩ := List.mem_map.mp md
        exact nl_ask m n
      · rw [List.mem_singleton.mp md]
        rfl
    · obtain ⟨y3, y4, y5, y6, us, rfl, bG, kG, hG, ul, dG⟩ := pj
      rw [List.length_map, List.take_length] at dG
      have BG := B3.keep (fun a u ha h => bG a u (freeL a (B.at'.noT a ha)) h) kG
      have SG := S3.keep (fun a u xa h => bG a u (freeL a (S.noT a xa)) h) kG
      have xG : Ex H G := fun a u h => bG a u (fun z => by rw [z, hL] at h; cases h) (x13 _ _ (x1 _ _ h))
      try dsimp only
      -- rows
      refine s_seq (BG.at'.e_rows (i := 1) rfl G (Ex.refl G) _ fun G1 y1 => ⟨rd, allKs, rkv, _, rfl, y1 _ _ BG.at'.hr, BG.di, (by rw [allKs_len]; exact Nat.le_refl _), fun pR js G2 _ y2 kf hj tpR => g_name ?_⟩)
      try dsimp only
      have y12 := y1.trans y2
      have hjl : js.length ≤ 1000 := by
        have := keys_few kf hj
        rw [allKs_len] at this
        exact this
      obtain ⟨xR, ptR, dxR⟩ := id tpR
      have lR : xR.length = js.length := by
        rw [dps_len dxR, List.length_map]
        unfold rowsOf
        rw [List.length_map]
      -- told
      have S2 := SG.ex y12
      obtain ⟨dx, fs, hp, hno⟩ := tk_ob S2 "life" (by decide +kernel)
      refine s_seq ⟨.ref p, rfl, p, dx, fs, rfl, hp, hno, ?_⟩
      try unfold tNil
      dsimp only
      refine w_life S2 fun G3 y3' => ?_
      have S3' := S2.ex y3'
      obtain ⟨dx, fs, hp, hno⟩ := tk_ob S3' "place" (by decide +kernel)
      refine ⟨.ref p, rfl, p, dx, fs, rfl, hp, hno, ?_⟩
      dsimp only
      refine w_place S3' fun G4 y4' => ?_
      have S4 := S3'.ex y4'
      obtain ⟨dx, fs, hp, hno⟩ := tk_ob S4 "place" (by decide +kernel)
      refine ⟨_, rfl, p, dx, fs, rfl, hp, ?_⟩
      refine w_len S4 fun js2 G5 y5' kf2 => ?_
      obtain rfl : js = js2 := kf.one kf2
      refine ⟨js.length, by omega, rfl, sz_of (by simp), fun tL hT => g_name ?_⟩
      try dsimp only
      have y6' := Ex.new hT (o := .lst [.int m.life, .int m.at', .int (js.length : Int)])
      have hT6 : (upd G5 tL (.lst [.int m.life, .int m.at', .int (js.length : Int)])) tL = some (.lst [.int m.life, .int m.at', .int (js.length : Int)]) := upd_same
      generalize upd G5 tL (.lst [.int m.life, .int m.at', .int (js.length : Int)]) = G6 at y6' hT6 ⊢
      have y26 := (y3'.trans y4').trans (y5'.trans y6')
      have B6 := BG.ex (y12.trans y26)
      have S6 := SG.ex (y12.trans y26)
      have tpR6 := tpR.same y26
      refine s_seq (s_if (b := false) (et_neD (K := K) (d := .list [.int m.life, .int m.at', .int (js.length : Int)]) (EvD.of (ev_var rfl) (.lst (sq_of hT6) (.cons (.int _) (.cons (.int _) (.cons (.int _) .nil))))) (fun G x Q' q' => ?_) (sd_sh (n := 1) rfl (by decide)) (sd_eq (n := 1) rfl)) (fun z => by cases z) fun _ G7 y7' => s_next ?_)
      · have BB := B6.ex x
        refine BB.at'.e_life (i := 1) rfl G (Ex.refl G) _ fun Ga xa => (BB.ex xa).at'.e_place (i := 1) rfl Ga (Ex.refl Ga) _ fun Gb xb => ⟨.ref pR, rfl, pR, xR, rfl, .inr (Evl.ex_t ((y26.trans x).trans (xa.trans xb)) ptR.st), sz_of (by simp), fun t ht => ?_⟩
        rw [lR]
        exact q' _ _ ((xa.trans xb).trans (Ex.new ht)) (.lst (sq_of upd_same) (.cons (.int _) (.cons (.int _) (.cons (.int _) .nil))))
      try dsimp only
      have B7 := B6.ex y7'
      obtain ⟨ks0, hks0, kl0, srt⟩ := B7.mi.keysS
      refine s_seq (B7.at'.e_known (i := 1) rfl G7 (Ex.refl G7) _ fun G8 y8' => ⟨kn, kkv, ks0, rfl, y8' _ _ B7.at'.hk, hks0, kl0, fun pS ms2 G9 _ y9' pm2 pw2 tpS => g_name ?_⟩)
      try dsimp only
      rw [srt ms2 pm2 pw2] at tpS
      have y69 := y7'.trans (y8'.trans y9')
      have B9 := B6.ex y69
      have S9 := S6.ex y69
      have tpR9 := tpR6.same y69
      have y29 := y26.trans y69
      have eR : ∀ {G : Hp} (σ : L2.St), Ex G9 G → σ[0]? = some (some (.ref p)) → EvD K (tMeth C "rows" (spRows K C) [] E0 (tVar 0) tNil) σ G (rowsD (rowsOf (fun k => (m.f k).join) js)) := fun {G} σ x s0 G1 x1 Q' q' => by
        have SS := S9.ex (x.trans x1)
        obtain ⟨dx, fs, hp, hno⟩ := tk_ob SS "rows" (by decide +kernel)
        refine ⟨.ref p, s0, p, dx, fs, rfl, hp, hno, ?_⟩
        try unfold tNil
        dsimp only
        refine w_rows SS fun t js3 H' nt x kf3 tp => ?_
        rw [kf3.one kf] at tp
        exact q' _ _ x tp.dp
      have eS : ∀ {G : Hp} (σ : L2.St), Ex G9 G → σ[0]? = some (some (.ref p)) → EvD K (tMeth C "sure" (spSureM K C) [] E0 (tVar 0) tNil) σ G (rowsD (spansF (sureL m.f))) := fun {G} σ x s0 G1 x1 Q' q' => by
        have SS := S9.ex (x.trans x1)
        obtain ⟨dx, fs, hp, hno⟩ := tk_ob SS "sure" (by decide +kernel)
        refine ⟨.ref p, s0, p, dx, fs, rfl, hp, hno, ?_⟩
        try unfold tNil
        dsimp only
        exact w_sure SS fun t H' nt x tp => q' _ _ x tp.dp
      refine s_seq (s_if (b := false) (et_is (et_or (et_neD (K := K) (eR _ (Ex.refl G9) rfl) (EvD.of (ev_var rfl) tpR9.dp) (shaped_rows _) (eqv_same _)) fun _ => et_neD (K := K) (eS _ (Ex.refl G9) rfl) (EvD.of (ev_var rfl) tpS.dp) (shaped_rows _) (eqv_same _)) rfl) (fun z => by cases z) fun _ Ga ya => s_next ?_)
      try dsimp only
      have Ba := B9.ex ya
      have Sa := S9.ex ya
      have s3 := sd_sv3 m.at' (rowsOf (fun k => (m.f k).join) js) (spansF (sureL m.f))
      refine s_seq (s_if (b := false) (et_neD (K := K) (d := .tuple [.int m.at', rowsD (rowsOf (fun k => (m.f k).join) js), rowsD (spansF (sureL m.f))]) (fun G x Q' q' => ?_) (fun G x Q' q' => ?_) (sd_sh s3 (by decide)) (sd_eq s3)) (fun z => by cases z) fun _ Gb yb => s_next ?_)
      · have SS := Sa.ex x
        obtain ⟨dx, fs, hp, hno⟩ := tk_ob SS "saved" (by decide +kernel)
        refine ⟨.ref p, rfl, p, dx, fs, rfl, hp, hno, ?_⟩
        try unfold tNil
        dsimp only
        refine w_saved SS fun t js3 H' nt x kf3 sv => ?_
        rw [kf3.one kf] at sv
        obtain ⟨pT, pS', hsv, tpT, tpS'⟩ := sv
        exact q' _ _ x (.tup hsv (.cons (.int _) (.cons tpT.dp (.cons tpS'.dp .nil))))
      · have BB := Ba.ex x
        refine BB.at'.e_place (i := 1) rfl G (Ex.refl G) _ fun Gc xc => ⟨.ref pR, rfl, .ref pS, rfl, sz_of (by simp), fun t ht => ?_⟩
        have xg := ((ya.trans x).trans xc).trans (Ex.new (o := .tup [.int m.at', .ref pR, .ref pS]) ht)
        exact q' _ _ (xc.trans (Ex.new ht)) (.tup (st_of upd_same) (.cons (.int _) (.cons (dp_same xg _ _ tpR9.dp) (.cons (dp_same xg _ _ tpS.dp) .nil))))
      try dsimp only
      have Bb := Ba.ex yb
      have Sb := Sa.ex yb
      have yGb := (y12.trans y29).trans (ya.trans yb)
      have dGb := dps_same yGb _ _ dG
      have eA1 : EvD K (tMeth C "asked" (spAskedM K C Cp) [] E0 (tVar 0) tNil) [some (.ref p), some (.ref o), some (.ref aL), y3, y4, y5, some (.ref pR), some (.ref tL), some (.ref pS)] Gb (.list (ms.map (askD m))) := fun Gx xx Q' q' => by
        have SS := Sb.ex xx
        obtain ⟨dx, fs, hp, hno⟩ := tk_ob SS "asked" (by decide +kernel)
        refine ⟨.ref p, rfl, p, dx, fs, rfl, hp, hno, ?_⟩
        try unfold tNil
        dsimp only
        refine ⟨p, m, X, rfl, SS, few.pl, fun t us' js3 H' nt x ht pm3 up3 dA => ?_⟩
        obtain rfl : js3 = ms := rising_one js3 ms up3 mst fun k => (pm3.mem_iff).trans (pm.mem_iff).symm
        exact q' _ _ x (.lst (sq_of ht) dA)
      refine s_ret (v := .bl true) (ev_is (ev_andV (a := true) (b := true) (ev_eqD (K := K) eA1 (EvD.of (ev_var rfl) (.lst (sq_of (yGb _ _ hG)) dGb)) (sd_sh (sd_askL m ms) (by decide)) (sd_eq (sd_askL m ms))) fun _ => ev_eqD (K := K) (d := .list m.ev) (fun G x Q' q' => ?_) (fun G x Q' q' => ?_) (sd_sh (sd_evL hev) (by decide)) (sd_eq (sd_evL hev))) rfl) fun H' x' => q H' ((xG.trans yGb).trans x')
      · have SS := Sb.ex x
        obtain ⟨dx, fs, hp, hno⟩ := tk_ob SS "events" (by decide +kernel)
        refine ⟨.ref p, rfl, p, dx, fs, rfl, hp, hno, ?_⟩
        try unfold tNil
        dsimp only
        exact w_events SS fun t us' H' nt x hh dd => q' _ _ x (.lst (sq_of hh) dd)
      · have BB := Bb.ex x
        exact BB.at'.e_out (i := 1) rfl G (Ex.refl G) _ fun Gc xc => q' _ _ xc (.lst (sq_of (xc _ _ BB.at'.ho)) (dps_same xc _ _ BB.dv))
end
end K27
namespace K27
open PySem L2 L2H PyProof.Rows Tc Evl
section
variable {K : PySem.W.Frag} {σ : L2.St} {G : Hp}
/-- name = tuple(a new list) -/
theorem tupA {te : TE} {xs : List V} {Dn : Ends} {i : Nat} (h : EvL te σ G xs) (k : ∀ (pT : Addr) (G' : Hp), Ex G G' → PT G' pT xs → G pT = none → Dn.nx (σ.set i (some (.ref pT))) G') : tAsg (tCB (rTupP K) (tCons te tNil)) (gName i) Dn σ G :=
  h G (Ex.refl G) _ fun pL G3 npL x3 hpL => ⟨pL, _, rfl, sq_of hpL, fun pT oT hpT odT => k pT _ (x3.trans (Ex.new hpT)) ⟨oT, upd_same, odT⟩ (fresh_back x3 hpT)⟩
end
/-- a filter by places -/
theorem filter_places {α : Type} (L : List α) (d : α) (P : α → Bool) : ((List.range L.length).filter fun i => P (L.getD i d)).map (fun i => L.getD i d) = L.filter P := by
  have e : (List.range L.length).map (fun i => L.getD i d) = L := by
    refine List.ext_getElem? fun i => ?_
    rw [List.getElem?_map]
    by_cases h : i < L.length
    · rw [List.getElem?_range h, List.getElem?_eq_getElem h]
      show some (L.getD i d) = _
      rw [List.getD_eq_getElem?_getD, List.getElem?_eq_getElem h, Option.getD_some]
    · rw [List.getElem?_eq_none (by rw [List.length_range]; omega), List.getElem?_eq_none (by omega)]
      rfl
  conv => rhs; rw [← e]
  rw [List.filter_map]
  rfl
theorem dps_given {K : PySem.W.Frag} {H : Hp} {α : Type} {xs : List V} {l : List α} {dd : α → PyData} (d0 : α) (P : α → Bool) (h : DpAll K H xs (l.map dd)) : DpAll K H (given xs.length (fun i => P (l.getD i d0)) fun i => xs.getD i .non) ((l.filter P).map dd) := by
  have hl : xs.length = l.length := by rw [dps_len h, List.length_map]
  rw [← filter_places l d0 P, hl]
  unfold given
  have gen : ∀ is : List Nat, (∀ i ∈ is, i < l.length) → DpAll K H (is.map fun i => xs.getD i .non) ((is.map fun i => l.getD i d0).map dd) := by
    intro is
    induction is with
    | nil => exact fun _ => .nil
    | cons i is ih =>
      intro hi
      have lt := hi i List.mem_cons_self
      have ltx : i < xs.length := by omega
      obtain ⟨d, hd, hx⟩ := dps_at h (List.getElem?_eq_getElem ltx)
      rw [List.getElem?_map, List.getElem?_eq_getElem lt] at hd
      cases hd
      refine .cons ?_ (ih fun j m => hi j (List.mem_cons_of_mem _ m))
      show Dp K H (xs.getD i .non) (dd (l.getD i d0))
      rw [List.getD_eq_getElem?_getD, List.getD_eq_getElem?_getD, List.getElem?_eq_getElem ltx, List.getElem?_eq_getElem lt]
      exact hx
  exact gen _ fun i m => List.mem_range.mp (List.mem_filter.mp m).1
section
variable {P : Program} {w : World} {K : PySem.W.Frag} {mg : Str → Option Value} {base : Heap}
theorem stp_in {acc : List (Int × Int)} {j : Int} (h : ∀ r ∈ acc, r.1 < r.2) : (∀ r ∈ stp acc j, r.1 < r.2) ∧ ∀ k, inSp (stp acc j) k ↔ inSp acc k ∨ k = j := by
  have new : (∀ r ∈ acc ++ [(j, j + 1)], r.1 < r.2) ∧ ∀ k, inSp (acc ++ [(j, j + 1)]) k ↔ inSp acc k ∨ k = j := by
    refine ⟨fun r m => ?_, fun k => ⟨fun ⟨r, m, e⟩ => ?_, fun z => ?_⟩⟩
    · rcases List.mem_append.mp m with m | m
      · exact h r m
      · rw [List.mem_singleton.mp m]
        show j < j + 1
        omega
    · rcases List.mem_append.mp m with m | m
      · exact .inl ⟨r, m, e⟩
      · rw [List.mem_singleton.mp m] at e
        dsimp only at e
        exact .inr (by omega)
    · rcases z with ⟨r, m, e⟩ | z
      · exact ⟨r, List.mem_append_left _ m, e⟩
      · exact ⟨(j, j + 1), List.mem_append_right _ (List.mem_singleton_self _), by dsimp only; omega⟩
  rcases List.eq_nil_or_concat acc with e | ⟨init, r, e⟩
  · subst e
    exact new
  · rw [List.concat_eq_append] at e
    subst e
    have gl : (init ++ [r]).getLast? = some r := by simp
    unfold stp
    rw [gl]
    dsimp only
    by_cases c : r.2 = j
    · rw [if_pos c, List.dropLast_concat]
      have hr := h r (List.mem_append_right _ (List.mem_singleton_self _))
      refine ⟨fun s m => ?_, fun k => ⟨fun ⟨s, m, e⟩ => ?_, fun z => ?_⟩⟩
      · rcases List.mem_append.mp m with m | m
        · exact h s (List.mem_append_left _ m)
        · rw [List.mem_singleton.mp m]
          show r.1 < j + 1
          omega
      · rcases List.mem_append.mp m with m | m
        · exact .inl ⟨s, List.mem_append_left _ m, e⟩
        · rw [List.mem_singleton.mp m] at e
          dsimp only at e
          by_cases ek : k = j
          · exact .inr ek
          · exact .inl ⟨r, List.mem_append_right _ (List.mem_singleton_self _), by omega⟩
      · rcases z with ⟨s, m, e⟩ | z
        · rcases List.mem_append.mp m with m | m
          · exact ⟨s, List.mem_append_left _ m, e⟩
          · rw [List.mem_singleton.mp m] at e
            exact ⟨(r.1, j + 1), List.mem_append_right _ (List.mem_singleton_self _), by dsimp only; omega⟩
        · exact ⟨(r.1, j + 1), List.mem_append_right _ (List.mem_singleton_self _), by dsimp only; omega⟩
    · rw [if_neg c]
      exact new
/-- the stretches of keys hold just these keys -/
theorem spans_in (ks : List Int) : (∀ r ∈ spansF ks, r.1 < r.2) ∧ ∀ k, inSp (spansF ks) k ↔ k ∈ ks := by
  have g : ∀ (ks : List Int) (acc : List (Int × Int)), (∀ r ∈ acc, r.1 < r.2) → (∀ r ∈ ks.foldl stp acc, r.1 < r.2) ∧ ∀ k, inSp (ks.foldl stp acc) k ↔ inSp acc k ∨ k ∈ ks := by
    intro ks
    induction ks with
    | nil => exact fun acc h => ⟨h, fun k => ⟨.inl, fun z => z.elim id fun m => by cases m⟩⟩
    | cons j ks ih =>
      intro acc h
      obtain ⟨h1, h2⟩ := stp_in (j := j) h
      obtain ⟨g1, g2⟩ := ih _ h1
      refine ⟨g1, fun k => (g2 k).trans ?_⟩
      rw [h2 k, List.mem_cons, or_assoc]
  obtain ⟨g1, g2⟩ := g ks [] fun r m => by cases m
  exact ⟨g1, fun k => (g2 k).trans ⟨fun z => z.elim (fun ⟨r, m, _⟩ => by cases m) id, .inr⟩⟩
theorem rowsA {K : PySem.W.Frag} {te : TE} {xs : List V} {H : Hp} {σ : L2.St} {Dn : Ends} (h : EvL te σ H xs) (k : ∀ (pT : Addr) (H' : Hp), Ex H H' → PT H' pT xs → H pT = none → Dn.nx (σ.set 7 (some (.ref pT))) H') : tAsg (tCB (rTupP K) (tCons te tNil)) (gName 7) Dn σ H :=
  h H (Ex.refl H) _ fun pL G3 npL x3 hpL => ⟨pL, _, rfl, sq_of hpL, fun pT oT hpT odT => k pT _ (x3.trans (Ex.new hpT)) ⟨oT, upd_same, odT⟩ (fresh_back x3 hpT)⟩
def spSv (K : PySem.W.Frag) : Sp := fun vs H Q _ => ∃ (b lk : Addr) (ks : List Int), vs = [.ref b, .ref lk] ∧ Bag H b ∧ KeysAt b H lk ks ∧ ks.length ≤ 1000 ∧
  ∀ (sv : Addr) (at2 : Int) (rws sp : List (Int × Int)) (H' : Hp), Tc.Fr b H H' → H sv = none → SvAt K H' sv at2 rws sp → 0 ≤ at2 → at2 < 50 → (∀ r ∈ rws, r.1 ∈ ks ∧ inSp sp r.1) → rws.length ≤ 5000 → spansIn sp → Q (.ref sv) H'
abbrev sSv : Stmt := topS 70
theorem scSv : FnScope ["bag", "keys", "known", "turn", "first", "last", "key", "rows", "pair"] ["bag", "keys"] (defScope sSv) := ⟨rfl, rfl, rfl, by decide +kernel, rfl, by decide +kernel, by decide +kernel⟩
set_option maxHeartbeats 2000000 in
theorem ok_sv {f : Addr} {fd : FuncData} {kT kSt kTb kSp k : Nat} (F : Fun K "_law_saved" "_law_saved" sSv f fd) (N : Names mg) (dT : Own P w K mg base "_law_take" ["bag", "many"] kT spTake) (hT : kT ≤ k) (dSt : Own P w K mg base "_law_stretch" ["bag", "keys"] kSt (spStr K)) (hSt : kSt ≤ k) (dTb : Own P w K mg base "_law_table" ["bag", "keys"] kTb (spTabR K)) (hTb : kTb ≤ k) (dSp : Own P w K mg base "_law_spans" ["keys"] kSp (spSpans K)) (hSp : kSp ≤ k) :
    FnOk P w K mg base CX0 (k + 1) f fd ["bag", "keys"] (spSv K) := by
  refine F.ok scSv (fun vs H Q E h => ?_) (fun cdv A outer s H vs Q E hr h => ?_)
  · obtain ⟨b, lk, ks, rfl, _⟩ := h
    rfl
  · obtain ⟨b, lk, ks, rfl, hB, hK, h64, q⟩ := h
    refine ⟨_, (pss_cons (ps_set (i := 2) scSv.nd rfl (.inr rfl) pe_dnewK)
      (pss_cons (ps_for PassesOwn.never rfl (pi_range1 rfl N.range (pa_cons (pe_own dT hr hT (by rfl) (pa_cons (pv 0) (pa_cons pe_int pa_nil))) pa_nil)) (pg_name (i := 3) scSv.nd rfl (.inl rfl)) (pss_cons (ps_asg (pe_own dSt hr hSt (by rfl) (pa_cons (pv 0) (pa_cons (pv 1) pa_nil))) (pg_tup rfl (pgs_cons (pg_name (i := 4) scSv.nd rfl (.inl rfl)) (pgs_cons (pg_name (i := 5) scSv.nd rfl (.inl rfl)) pgs_nil)))) (pss_one (ps_for PassesOwn.never rfl (pi_range2 rfl N.range (pa_cons (pv 4) (pa_cons (pv 5) pa_nil))) (pg_name (i := 6) scSv.nd rfl (.inl rfl)) (pss_one (ps_dput (hu_of hr) (pv 2) (pv 6) pe_bl rfl))))))
      (pss_cons (ps_set (i := 7) scSv.nd rfl (.inl rfl) (pe_callTy cr_tupP (by rfl) N.tuple boot_tuple (pa_cons (pe_lc (own := [("pair", 8)]) (g := gName 8) (tt := tTest (tDIn (tOp (rIxT K) (tVar 8) (tC (.int 0))) (tVar 2))) (te := tVar 8) rfl scSv.nd (pi_tup (pe_own dTb hr hTb (by rfl) (pa_cons (pv 0) (pa_cons (pv 1) pa_nil)))) (blkOk_by (N := ["bag", "keys", "known", "turn", "first", "last", "key", "rows", "pair"]) (sc := defScope sSv) (by decide +kernel)) (fun _ _ _ _ _ => pg_name (i := 8) scSv.nd rfl (Or.inl rfl)) (fun _ _ _ _ _ => (pts_one (pt_cmp (pc_din (hu_of hr) (pe_ix ix_tup (pv 8) pe_int (fun _ _ => rfl)) (pv 2))))) (fun _ _ _ _ _ => (pv 8))) pa_nil)))
      (pss_one (ps_ret (pe_tup (pa_cons (pe_own dT hr hT (by rfl) (pa_cons (pv 0) (pa_cons pe_int pa_nil))) (pa_cons (pv 7) (pa_cons (pe_own dSp hr hSp (by rfl) (pa_cons (pv 2) pa_nil)) pa_nil))))))))), ?_⟩
    refine s_seq fun D hD => g_name ?_
    dsimp only
    have x1 : Ex H (upd H D (.dK [])) := Ex.new hD
    have hD1 : (upd H D (.dK [])) D = some (.dK []) := upd_same
    generalize hH1 : upd H D (.dK []) = H1 at x1 hD1
    have f1 : Tc.Fr b H H1 := Fr.ex hB x1
    have Db : D ≠ b := hB.ne hD
    refine s_seq (take_of (b := b) (m := 4) f1.bag (ea_cons (ev_var rfl) (ea_cons ev_c ea_nil)) (by decide) (by decide) fun n H2 f12 n0 n4 => ?_)
    obtain ⟨nn, rfl⟩ : ∃ nn : Nat, n = (nn : Int) := ⟨n.toNat, by omega⟩
    refine ⟨(nn : Int), rfl, by omega, by omega, ?_⟩
    refine for_range (lo := 0) (n := nn) (fun i σ' H' => ∃ y3 y4 y5 y6 kvs S, σ' = [some (.ref b), some (.ref lk), some (.ref D), y3, y4, y5, y6, none, none] ∧ Tc.Fr b H H' ∧ H' D = some (.dK kvs) ∧ MI allK kvs S) ⟨none, none, none, none, [], _, rfl, f1.trans f12, f12.at hD1 Db, MI.nil⟩ (fun i σ' H' hi p => ?_) (fun σ' H' p => ?_)
    · obtain ⟨y3, y4, y5, y6, kvs, S, rfl, fr, hDk, mi⟩ := p
      refine g_name ?_
      dsimp only
      refine s_seq ⟨.ref b, rfl, .ref lk, rfl, b, lk, ks, rfl, fr.bag, hK.fr fr, fun x y sp G1 g1 nsp spb hsp x0 x1' xy y1 => ⟨sp, _, rfl, st_of hsp, rfl, _, _, rfl, _, _, rfl, rfl, ?_⟩⟩
      dsimp only
      have hDg := g1.at hDk Db
      refine s_forR2 (lo := x) (n := y) (ea_cons (ev_var rfl) (ea_cons (ev_var rfl) ea_nil)) ⟨by omega, by omega, by omega, by omega⟩ (fun j σ2 G => ∃ z6 kvs2 S2, σ2 = [some (.ref b), some (.ref lk), some (.ref D), some (.int ((0 : Int) + (i : Int))), some (.int x), some (.int y), z6, none, none] ∧ Tc.Fr b H G ∧ G D = some (.dK kvs2) ∧ MI allK kvs2 S2) (fun G xg => ⟨y6, kvs, S, rfl, (fr.trans g1).trans (Fr.ex g1.bag xg), xg _ _ hDg, mi⟩) (fun j σ2 G hj p => ?_) (fun σ2 G p => ?_)
      · obtain ⟨z6, kvs2, S2, rfl, fg, hD2, mi2⟩ := p
        dsimp only
        refine ⟨.ref D, rfl, .int (x + (j : Int)), rfl, D, _, rfl, DPut.k (k := .inl (x + (j : Int))) hD2 (sz_lt (by have := mi2.len; rw [allKs_len] at this; omega)), ?_⟩
        exact ⟨_, _, _, rfl, Fr.mut fg hD Db, upd_same, mi2.put (mem_allK ⟨by omega, by omega⟩)⟩
      · obtain ⟨z6, kvs2, S2, rfl, fg, hD2, mi2⟩ := p
        exact ⟨_, _, _, _, kvs2, S2, rfl, fg, hD2, mi2⟩
    · obtain ⟨y3, y4, y5, y6, kvs, S, rfl, fr, hDk, mi⟩ := p
      refine s_seq ⟨.ref b, rfl, .ref lk, rfl, b, lk, ks, rfl, fr.bag, hK.fr fr, fun pt rs G1 g1 tp1 hrs hws hl _ => ?_⟩
      have fr1 := fr.trans g1
      have hDg := g1.at hDk Db
      obtain ⟨xs, px, dxs⟩ := id tp1
      have hxl : xs.length = rs.length := by rw [dps_len dxs, List.length_map]
      have lcR : EvL (tLc (iTup K (tC (.ref pt))) (gName 8) (tTest (tDIn (tOp (rIxT K) (tVar 8) (tC (.int 0))) (tVar 2))) (tVar 8) [8]) [some (.ref b), some (.ref lk), some (.ref D), y3, y4, y5, y6, none, none] G1 (given xs.length (fun j => (valV kvs (.inl (rs.getD j (0, 0)).1)).isSome) fun j => xs.getD j .non) := by
        refine el_lcT (K := K) (a := pt) (xs := xs) _ _ ev_c px.st (by omega) (fun z => rfl) (fun j u G xg hj => ?_) (fun j u G xg hj _ => ev_is (ev_var rfl) (by rw [List.getD_eq_getElem?_getD, hj]; rfl))
        obtain ⟨d, hd, hu⟩ := dps_at (dps_same xg _ _ dxs) hj
        rw [List.getElem?_map] at hd
        obtain ⟨row, hrow, rfl⟩ := Option.map_eq_some_iff.mp hd
        have eg : rs.getD j (0, 0) = row := by rw [List.getD_eq_getElem?_getD, hrow]; rfl
        rw [eg]
        obtain ⟨pa, u0, u1, rfl, hpa, h0, h1⟩ := dpt2 hu
        cases h0
        intro G3 x3 Q' q'
        exact ev_ix0 (ev_var rfl) (Evl.ex_t x3 hpa) G3 (Ex.refl G3) _ fun G4 x4 => ⟨.ref D, rfl, D, _, rfl, DGet.k (k := .inl row.1) (x4 _ _ (x3 _ _ (xg _ _ hDg))), _, rfl, q' G4 x4⟩
      refine rowsA (K := K) lcR fun pT G2 x2 ptT npT => ?_
      dsimp only
      have tpT : TP K G2 pT (rs.filter fun r => (valV kvs (.inl r.1)).isSome) := ⟨_, ptT, dps_given (0, 0) (fun r => (valV kvs (.inl r.1)).isSome) (dps_same x2 _ _ dxs)⟩
      have f2 : Tc.Fr b H G2 := fr1.trans (Fr.ex fr1.bag x2)
      have hD2 := x2 _ _ hDg
      refine take_of (b := b) (m := 50) f2.bag (ea_cons (ev_var rfl) (ea_cons ev_c ea_nil)) (by decide) (by decide) fun at2 G3 f3 a0 a1 => ⟨.ref pT, rfl, ?_⟩
      obtain ⟨ks', hks', kl'⟩ := mi.keysL
      have hD3 := f3.at hD2 Db
      obtain ⟨bs2, hb2⟩ := f2.bag.lst
      have tp3 := tpT.bar hb2 f3.bar
      refine ⟨.ref D, rfl, D, kvs, ks', rfl, hD3, hks', kl', fun pS ms G4 npS x4 pm pw tpS => ⟨sz_of (by simp), fun t ht => ?_⟩⟩
      have f4 : Tc.Fr b H G4 := (f2.trans f3).trans (Fr.ex (f2.trans f3).bag x4)
      have mem : ∀ k, k ∈ ms ↔ (valV kvs (.inl k)).isSome = true := fun k => by
        rw [pm.mem_iff, ← valV_memI, hks', List.mem_map]
        exact ⟨fun m => ⟨k, m, rfl⟩, fun ⟨j, m, e⟩ => (Sum.inl.inj e) ▸ m⟩
      have bd : ∀ k ∈ ms, 0 ≤ k ∧ k < 1000 := fun k m => by
        obtain ⟨p, hp, e⟩ := List.mem_map.mp (valV_memI.mpr ((mem k).mp m))
        obtain ⟨j, hj, e'⟩ := mi.inn p hp
        obtain ⟨n, hn, e2⟩ := List.mem_map.mp hj
        have h1 := List.mem_range.mp hn
        have e3 : ((n : Nat) : Int) = j := e2
        have e4 : k = j := Sum.inl.inj (e.symm.trans e')
        omega
      obtain ⟨s1, s2⟩ := spans_in ms
      have few : (rs.filter fun r => (valV kvs (.inl r.1)).isSome).length ≤ rs.length := List.length_filter_le _ _
      refine q t at2 _ _ _ (f4.trans (Fr.new f4.bag ht)) (f4.free hB ht) ⟨pT, pS, st_of upd_same, tp3.same (x4.trans (Ex.new ht)), tpS.same (Ex.new ht)⟩ a0 a1 (fun r mr => ?_) (by omega) (fun r mr => ?_)
      · obtain ⟨m1, m2⟩ := List.mem_filter.mp mr
        exact ⟨hrs r m1, (s2 r.1).mpr ((mem r.1).mpr m2)⟩
      · have lt := s1 r mr
        have h1 := bd r.1 ((s2 r.1).mp ⟨r, mr, by omega, by omega⟩)
        have h2 := bd (r.2 - 1) ((s2 (r.2 - 1)).mp ⟨r, mr, by omega, by omega⟩)
        exact ⟨h1.1, by omega, by omega⟩
end
def spOfI : Sp := fun vs H Q _ => ∃ (b l : Addr) (ks : List Int), vs = [.ref b, .ref l] ∧ Bag H b ∧ H l = some (.lst (ks.map V.int)) ∧ l ≠ b ∧ 0 < ks.length ∧ ks.length ≤ 100000 ∧ ∀ k H', k ∈ ks → Tc.Fr b H H' → Q (.int k) H'
section
variable {P : Program} {w : World} {K : PySem.W.Frag} {mg : Str → Option Value} {base : Heap}
theorem ok_ofI {f : Addr} {fd : FuncData} {kT k : Nat} (F : Fun K "_law_of" "_law_of" sOf f fd) (N : Names mg) (dT : Own P w K mg base "_law_take" ["bag", "many"] kT spTake) (hT : kT ≤ k) : FnOk P w K mg base CX0 (k + 1) f fd ["bag", "some"] spOfI := by
  refine F.ok scOf (fun vs H Q E h => ?_) (fun cdv A outer s H vs Q E hr h => ?_)
  · obtain ⟨b, l, ks, rfl, _⟩ := h
    rfl
  · obtain ⟨b, l, ks, rfl, hB, hl, ne, n0, n1, q⟩ := h
    refine ⟨_, (pss_one (ps_ret (pe_ix ix_list (pv 1) (pe_own dT hr hT (by rfl) (pa_cons (pv 0) (pa_cons (pe_callB call_len_seq (by rfl) N.len PySem.boot_len (pa_cons (pv 1) pa_nil)) pa_nil))) (fun _ _ => rfl)))), ?_⟩
    refine ⟨.ref l, rfl, take_of (b := b) (m := (ks.length : Int)) hB (ea_cons (ev_var rfl) (ea_cons (ev_is (ev_len (ev_var rfl) (sq_of hl)) (by rw [List.length_map])) ea_nil)) (by omega) (by omega) fun r H1 f1 r0 r1 => ?_⟩
    obtain ⟨n, rfl⟩ : ∃ n : Nat, r = (n : Int) := ⟨r.toNat, by omega⟩
    have hn : n < ks.length := by omega
    exact ⟨l, ks.map V.int, n, .int ks[n], rfl, rfl, sq_of (f1.at hl ne), atI_nat (by rw [List.getElem?_map, List.getElem?_eq_getElem hn]; rfl), q _ _ (List.getElem_mem hn) f1⟩
end
end K27
namespace K27
open PySem L2 L2H PyProof.Rows Tc Evl
theorem sok_one {b : Addr} {H : Hp} (h : Bag H b) : Sok (fun a => a = b) b H := ⟨rfl, fun a m => by
  obtain ⟨x, y, hb, _⟩ := h
  rw [m, hb]
  exact fun z => nomatch z⟩
abbrev sStep : Stmt := topS 71
theorem scStep : FnScope ["bag", "own", "keys", "numbers", "number", "way", "life", "rows", "first", "last", "pair"] ["bag", "own", "keys"] (defScope sStep) := ⟨rfl, rfl, rfl, by decide +kernel, rfl, by decide +kernel, by decide +kernel⟩
/-- a step as it is drawn -/
def stB (ks : List Int) : TSt → Prop
  | .take d => goodEn allKs d = true ∧ (chsD d).length ≤ 6 ∧ (numOf d).natAbs.log2 < 1920 ∧ nl 3 d = true
  | .ask i a b => 0 ≤ i ∧ i < 8 ∧ 0 ≤ a ∧ a < b ∧ b ≤ 1000
  | .answer i d => 0 ≤ i ∧ i < 8 ∧ ∃ rs, d = rowsD rs ∧ rs.length ≤ 63 ∧ (∀ r ∈ rs, 0 ≤ r.1 ∧ r.1 < 1000 ∧ 0 ≤ r.2 ∧ r.2 < 1000)
  | .give i => 0 ≤ i ∧ i < 8
theorem stB.ok {ks : List Int} {s : TSt} (h : stB ks s) : tsOk s := by
  have small : ∀ i : Int, 0 ≤ i → i < 8 → i.natAbs.log2 < 1920 := fun i h0 h1 => by
    have : i.natAbs < 8 := by omega
    by_cases z : i.natAbs = 0
    · rw [z]
      decide
    · exact Nat.lt_of_lt_of_le (Nat.log2_lt z |>.mpr (show i.natAbs < 2 ^ 3 by omega)) (by decide)
  cases s with
  | take d => exact ⟨h.1, by have := h.2.1; omega, h.2.2.1⟩
  | ask i a b => exact trivial
  | answer i d => exact small i h.1 h.2.1
  | give i => exact small i h.1 h.2
def spStp (K : PySem.W.Frag) : Sp := fun vs H Q _ => ∃ (b o lk : Addr) (ks : List Int) (m : TM) (X : Addr → Prop), vs = [.ref b, .ref o, .ref lk] ∧ Bag H b ∧ ¬ X b ∧ KeysAt b H lk ks ∧ ks.length < 64 ∧ ks.Pairwise (· < ·) ∧ OwM K H o m X ∧ (∀ x ∈ m.pcs, 0 ≤ x.num ∧ x.num < 8) ∧ m.pcs.length ≤ 10000 ∧
  ∀ t s us H', Tc.Fr b H H' → SqT K H' t us → DpAll K H' us (tsD s) → stB ks s → Q (.ref t) H'
section
variable {P : Program} {w : World} {K : PySem.W.Frag} {mg : Str → Option Value} {base : Heap}
set_option maxHeartbeats 4000000 in
theorem ok_step {f : Addr} {fd : FuncData} {kT kOf kEn kStr kTb k : Nat} (F : Fun K "_law_taker_step" "_law_taker_step" sStep f fd) (N : Names mg) (dT : Own P w K mg base "_law_take" ["bag", "many"] kT spTake) (hT : kT ≤ k) (dOf : Own P w K mg base "_law_of" ["bag", "some"] kOf spOfI) (hOf : kOf ≤ k) (dEn : Own P w K mg base "_law_entry" ["bag", "keys"] kEn (spEntM K)) (hEn : kEn ≤ k) (dStr : Own P w K mg base "_law_stretch" ["bag", "keys"] kStr (spStr K)) (hStr : kStr ≤ k) (dTb : Own P w K mg base "_law_table" ["bag", "keys"] kTb (spTabR K)) (hTb : kTb ≤ k) : FnOk P w K mg base CX0 (k + 1) f fd ["bag", "own", "keys"] (spStp K) := by
  refine F.ok scStep (fun vs H Q E h => ?_) (fun cdv A outer s H vs Q E hr h => ?_)
  · obtain ⟨b, o, lk, ks, m, X, rfl, _⟩ := h
    rfl
  · obtain ⟨b, o, lk, ks, m, X, rfl, hB, xb, ky, k64, kup, S, nb, pl, q⟩ := h
    refine ⟨_, (pss_cons (ps_set (i := 3) scStep.nd rfl (.inl rfl) (pe_op op_cat (pe_op op_rep (pe_callB (cr_sortedDA rfl) (by rfl) N.sorted boot_sorted (pa_cons (pe_dget (hu_of hr) (pv 1) pe_str (fun _ _ => rfl)) pa_nil)) pe_int) (pe_lst (pa_cons (pe_own dT hr hT (by rfl) (pa_cons (pv 0) (pa_cons pe_int pa_nil))) pa_nil))))
      (pss_cons (ps_set (i := 4) scStep.nd rfl (.inl rfl) (pe_own dOf hr hOf (by rfl) (pa_cons (pv 0) (pa_cons (pv 3) pa_nil))))
      (pss_cons (ps_set (i := 5) scStep.nd rfl (.inl rfl) (pe_own dT hr hT (by rfl) (pa_cons (pv 0) (pa_cons pe_int pa_nil))))
      (pss_cons (ps_if (pt_cmpR op_lt (pv 5) pe_int (nomark _)) (pss_one (ps_ret (pe_tup (pa_cons pe_str (pa_cons (pe_own dEn hr hEn (by rfl) (pa_cons (pv 0) (pa_cons (pv 2) pa_nil))) pa_nil))))) pss_nil)
      (pss_cons (ps_if (pt_cmpR op_lt (pv 5) pe_int (nomark _)) (pss_cons (ps_set (i := 6) scStep.nd rfl (.inl rfl) (pe_ix ix_list (pe_lst (pa_cons (pe_dget (hu_of hr) (pv 1) pe_str (fun _ _ => rfl)) (pa_cons (pe_dget (hu_of hr) (pv 1) pe_str (fun _ _ => rfl)) (pa_cons (pe_dget (hu_of hr) (pv 1) pe_str (fun _ _ => rfl)) (pa_cons (pe_op op_add pe_int (pe_own dT hr hT (by rfl) (pa_cons (pv 0) (pa_cons pe_int pa_nil)))) pa_nil))))) (pe_own dT hr hT (by rfl) (pa_cons (pv 0) (pa_cons pe_int pa_nil))) (fun _ _ => rfl)))
      (pss_one (ps_ret (pe_tup (pa_cons pe_str (pa_cons (pe_tup (pa_cons (pe_ix ix_list (pe_lst (pa_cons pe_str (pa_cons pe_str pa_nil))) (pe_own dT hr hT (by rfl) (pa_cons (pv 0) (pa_cons pe_int pa_nil))) (fun _ _ => rfl)) (pa_cons (pv 6) (pa_cons (pv 4) pa_nil)))) pa_nil)))))) pss_nil)
      (pss_cons (ps_if (pt_cmpR op_lt (pv 5) pe_int (nomark _)) (pss_one (ps_ret (pe_op op_catT (pe_tup (pa_cons pe_str (pa_cons (pe_own dT hr hT (by rfl) (pa_cons (pv 0) (pa_cons pe_int pa_nil))) pa_nil))) (pe_own dStr hr hStr (by rfl) (pa_cons (pv 0) (pa_cons (pv 2) pa_nil)))))) pss_nil)
      (pss_cons (ps_if (pt_cmpR op_eq (pv 5) pe_int (nomark _)) (pss_one (ps_ret (pe_tup (pa_cons pe_str (pa_cons (pv 4) pa_nil))))) pss_nil)
      (pss_cons (ps_set (i := 7) scStep.nd rfl (.inl rfl) (pe_own dTb hr hTb (by rfl) (pa_cons (pv 0) (pa_cons (pv 2) pa_nil))))
      (pss_cons (ps_if (pt_cmp (pc_din (hu_of hr) (pv 4) (pe_dget (hu_of hr) (pv 1) pe_str (fun _ _ => rfl)))) (pss_cons (ps_asg (pe_ix ix_tup (pe_dget (hu_of hr) (pe_dget (hu_of hr) (pv 1) pe_str (fun _ _ => rfl)) (pv 4) (fun _ _ => rfl)) pe_int (fun _ _ => rfl)) (pg_tup rfl (pgs_cons (pg_name (i := 8) scStep.nd rfl (.inr rfl)) (pgs_cons (pg_name (i := 9) scStep.nd rfl (.inr rfl)) pgs_nil))))
      (pss_one (ps_set (i := 7) scStep.nd rfl (.inl rfl) (pe_callTy cr_tupP (by rfl) N.tuple boot_tuple (pa_cons (pe_lc (own := [("pair", 10)]) (g := gName 10) (tt := tTest (tChain (rI0 fun i j => .bl (decide (i ≤ j))) (rI0 fun i j => .bl (decide (i < j))) (tVar 8) (tOp (rIxT K) (tVar 10) (tC (.int 0))) (tVar 9))) (te := tVar 10) rfl scStep.nd (pi_tup (pv 7)) (blkOk_by (N := ["bag", "own", "keys", "numbers", "number", "way", "life", "rows", "first", "last", "pair"]) (sc := defScope sStep) (by decide +kernel)) (fun _ _ _ _ _ => pg_name (i := 10) scStep.nd rfl (Or.inl rfl)) (fun _ _ _ _ _ => (pts_one (pt_chain op_le op_lt (pv 8) (pe_ix ix_tup (pv 10) pe_int (fun _ _ => rfl)) (pv 9)))) (fun _ _ _ _ _ => (pv 10))) pa_nil))))) pss_nil)
      (pss_one (ps_ret (pe_tup (pa_cons pe_str (pa_cons (pv 4) (pa_cons (pv 7) pa_nil))))))))))))))), ?_⟩
    have S0 := S
    obtain ⟨rd, kn, pc, ev, ot, rkv, kkv, l, ov, B, fx⟩ := S0
    have ek : (opV l).map (·.1) = (m.pcs.map (·.num)).map Sum.inl := by
      unfold opV
      rw [← B.pl, List.map_map, List.map_map, List.map_map]
      rfl
    have BF : ∀ {G : Hp}, Tc.Fr b H G → OwB K G o rd kn pc ev ot rkv kkv l ov m := fun {G} f => B.keep (fun a u ha h => f.at h fun z => xb (z ▸ (fx a).mpr ha)) (Kt.fr hB f)
    -- the numbers
    refine s_seq (B.at'.e_pieces (i := 1) rfl H (Ex.refl H) _ fun H1 x1 => ⟨pc, opV l, m.pcs.map (·.num), rfl, .inl (x1 _ _ B.at'.hp), ek, fun ms ll pm pw hl => ⟨ll, 2, _, rfl, rfl, upd_same, by decide, by decide, sz_of (by rw [List.length_map, pm.length_eq, List.length_map]; show _ * 2 ≤ _; omega), fun l2 hl2 => ?_⟩⟩)
    have x2 := (Ex.new hl (o := .lst (ms.map V.int))).trans (Ex.new hl2 (o := .lst (List.replicate (2 : Int).toNat (ms.map V.int)).flatten))
    have hL2 : (upd (upd H1 ll (.lst (ms.map V.int))) l2 (.lst (List.replicate (2 : Int).toNat (ms.map V.int)).flatten)) l2 = some (.lst ((ms ++ ms).map V.int)) := by
      rw [upd_same]
      congr 2
      show (ms.map V.int ++ (ms.map V.int ++ [])) = _
      rw [List.append_nil, List.map_append]
    have l2b : l2 ≠ b := fun z => by
      obtain ⟨bx, bY, hb, _⟩ := hB
      have := (x1.trans (Ex.new hl (o := .lst (ms.map V.int)))) _ _ hb
      rw [← z, hl2] at this
      cases this
    generalize upd (upd H1 ll (.lst (ms.map V.int))) l2 (.lst (List.replicate (2 : Int).toNat (ms.map V.int)).flatten) = H2 at x2 hL2 ⊢
    have f02 := Fr.ex hB (x1.trans x2)
    -- a number
    refine take_of (b := b) (m := 8) f02.bag (ea_cons (ev_var rfl) (ea_cons ev_c ea_nil)) (by decide) (by decide) fun n8 H3 f3 n0 n8' => ⟨sz_of (by simp), fun l3 hl3 => ⟨l2, l3, _, _, rfl, rfl, (Ex.new hl3) _ _ (f3.at hL2 l2b), upd_same, sz_of (by rw [List.length_map, List.length_append, pm.length_eq, List.length_map]; simp; omega), fun l4 hl4 => g_name ?_⟩⟩
    try dsimp only
    have x4 := (Ex.new hl3 (o := .lst [.int n8])).trans (Ex.new hl4 (o := .lst ((ms ++ ms).map V.int ++ [.int n8])))
    have hL4 : (upd (upd H3 l3 (.lst [.int n8])) l4 (.lst ((ms ++ ms).map V.int ++ [.int n8]))) l4 = some (.lst ((ms ++ ms ++ [n8]).map V.int)) := by
      rw [upd_same]
      simp
    have f04 := (f02.trans f3).trans (Fr.ex (f02.trans f3).bag x4)
    have l4b : l4 ≠ b := fun z => by
      obtain ⟨bx, bY, hb, _⟩ := (f02.trans f3).bag
      have := (Ex.new hl3 (o := .lst [.int n8])) _ _ hb
      rw [← z, hl4] at this
      cases this
    generalize upd (upd H3 l3 (.lst [.int n8])) l4 (.lst ((ms ++ ms).map V.int ++ [.int n8])) = H4 at x4 hL4 f04 ⊢
    refine s_seq ⟨.ref b, rfl, .ref l4, rfl, b, l4, ms ++ ms ++ [n8], rfl, f04.bag, hL4, l4b, (by simp; omega), (by rw [List.length_append, List.length_append, pm.length_eq, List.length_map]; simp; omega), fun num H5 hm f5 => g_name ?_⟩
    try dsimp only
    have nbd : 0 ≤ num ∧ num < 8 := by
      have hms : ∀ z ∈ ms, 0 ≤ z ∧ z < 8 := fun z mz => by
        obtain ⟨x, mx, rfl⟩ := List.mem_map.mp (pm.mem_iff.mp mz)
        exact nb x mx
      simp only [List.mem_append, List.mem_singleton] at hm
      rcases hm with (hm | hm) | hm
      · exact hms _ hm
      · exact hms _ hm
      · omega
    have f05 := f04.trans f5
    refine s_seq (t_asg (take_of (b := b) (m := 16) f05.bag (ea_cons (ev_var rfl) (ea_cons ev_c ea_nil)) (by decide) (by decide) fun way H6 f6 w0 w16 => g_name ?_))
    try dsimp only
    have f06 := f05.trans f6
    -- entries
    refine s_seq (s_if (b := decide (way < 5)) (et_test (ev_op (ev_var rfl) ev_c rv_I0)) (fun z H7 x7 => ?_) fun z H7 x7 => s_next ?_)
    · have f07 := f06.trans (Fr.ex f06.bag x7)
      refine ⟨.ref b, rfl, .ref lk, rfl, b, lk, ks, (fun a => a = b), rfl, f07.bag, sok_one f07.bag, ky.fr f07, fun v d H8 f8 hd he => ⟨sz_of (by simp), fun t ht => ?_⟩⟩
      have f08 := f07.trans f8
      have g := ent_good ky.bd he
      have hd8 := dp_same (cut_same _ _) _ _ hd
      refine q t (.take d) _ _ (f08.trans (Fr.ex f08.bag (Ex.new ht))) (st_of upd_same) (.cons (.str _) (.cons (dp_same (Ex.new ht) _ _ hd8) .nil)) ⟨g.1, ?_, g.2.2, nl_en g.1⟩
      rcases he with ⟨cs, rfl, _, hl⟩ | ⟨s, i, n, rfl, _⟩
      · exact hl
      · exact Nat.zero_le _
    have f07 := f06.trans (Fr.ex f06.bag x7)
    clear z
    -- marks
    refine s_seq (s_if (b := decide (way < 9)) (et_test (ev_op (ev_var rfl) ev_c rv_I0)) (fun z H8 x8 => ?_) fun z H8 x8 => s_next ?_)
    · have f08 := f07.trans (Fr.ex f07.bag x8)
      have B8 := BF f08
      refine s_seq (B8.at'.e_life (i := 1) rfl H8 (Ex.refl H8) _ fun Ga xa => (B8.ex xa).at'.e_life (i := 1) rfl Ga (Ex.refl Ga) _ fun Gb xb' => ((B8.ex xa).ex xb').at'.e_life (i := 1) rfl Gb (Ex.refl Gb) _ fun Gc xc => ?_)
      have fc := f08.trans (Fr.ex f08.bag ((xa.trans xb').trans xc))
      refine take_of (b := b) (m := 4) fc.bag (ea_cons (ev_var rfl) (ea_cons ev_c ea_nil)) (by decide) (by decide) fun r Gd fd' r0 r4 => ⟨1, r, rfl, rfl, sz_of (by simp), fun p1 hp1 => ?_⟩
      have fd := fc.trans fd'
      have fe := fd.trans (Fr.ex fd.bag (Ex.new hp1 (o := .lst [.int m.life, .int m.life, .int m.life, .int (1 + r)])))
      have p1b : p1 ≠ b := fd.bag.ne hp1
      refine take_of (b := b) (m := 4) fe.bag (ea_cons (ev_var rfl) (ea_cons ev_c ea_nil)) (by decide) (by decide) fun dr Gf ff d0 d4 => ?_
      have pick : ∃ lf : Int, atI [V.int m.life, .int m.life, .int m.life, .int (1 + r)] dr = some (.int lf) := by
        rcases (show dr = 0 ∨ dr = 1 ∨ dr = 2 ∨ dr = 3 by omega) with rfl | rfl | rfl | rfl
        · exact ⟨_, rfl⟩
        · exact ⟨_, rfl⟩
        · exact ⟨_, rfl⟩
        · exact ⟨_, rfl⟩
      obtain ⟨lf, hpk⟩ := pick
      refine ⟨p1, _, dr, _, rfl, rfl, sq_of (ff.at upd_same p1b), hpk, g_name ?_⟩
      try dsimp only
      have fg := fe.trans ff
      refine ⟨sz_of (by simp), fun p2 hp2 => ?_⟩
      have p2b : p2 ≠ b := fg.bag.ne hp2
      have fh := fg.trans (Fr.ex fg.bag (Ex.new hp2 (o := .lst [.str "low", .str "high"])))
      refine take_of (b := b) (m := 2) fh.bag (ea_cons (ev_var rfl) (ea_cons ev_c ea_nil)) (by decide) (by decide) fun d2 Gi fi e0 e1 => ?_
      have pick2 : ∃ wd : Str, atI [V.str "low", .str "high"] d2 = some (.str wd) ∧ (wd = "low" ∨ wd = "high") := by
        rcases (show d2 = 0 ∨ d2 = 1 by omega) with rfl | rfl
        · exact ⟨_, rfl, .inl rfl⟩
        · exact ⟨_, rfl, .inr rfl⟩
      obtain ⟨wd, hpk2, hwd⟩ := pick2
      have fj := fh.trans fi
      refine ⟨p2, _, d2, _, rfl, rfl, sq_of (fi.at upd_same p2b), hpk2, _, rfl, _, rfl, sz_of (by simp), fun t1 h1 => ⟨sz_of (by simp), fun t ht => ?_⟩⟩
      have xt := (Ex.new h1 (o := .tup [.str wd, .int lf, .int num])).trans (Ex.new ht (o := .tup [.str "take", .ref t1]))
      refine q t (.take (.tuple [.str wd, .int lf, .int num])) _ _ (fj.trans (Fr.ex fj.bag xt)) (st_of upd_same) (.cons (.str _) (.cons (.tup (st_of ((Ex.new ht) _ _ upd_same)) (.cons (.str _) (.cons (.int _) (.cons (.int _) .nil)))) .nil)) ⟨gq_mark hwd, Nat.zero_le _, (stB.ok (ks := ks) (s := .give num) nbd), rfl⟩
    have f08 := f07.trans (Fr.ex f07.bag x8)
    clear z
    -- pieces asked for
    refine s_seq (s_if (b := decide (way < 12)) (et_test (ev_op (ev_var rfl) ev_c rv_I0)) (fun z H9 x9 => ?_) fun z H9 x9 => s_next ?_)
    · have f09 := f08.trans (Fr.ex f08.bag x9)
      refine take_of (b := b) (m := 8) f09.bag (ea_cons (ev_var rfl) (ea_cons ev_c ea_nil)) (by decide) (by decide) fun i Ga fa i0 i8 => ⟨sz_of (by simp), fun t1 h1 => ?_⟩
      have fb := f09.trans fa
      have t1b : t1 ≠ b := fb.bag.ne h1
      have fc := fb.trans (Fr.ex fb.bag (Ex.new h1 (o := .tup [.str "ask", .int i])))
      refine ⟨.ref b, rfl, .ref lk, rfl, b, lk, ks, rfl, fc.bag, ky.fr fc, fun x y st Gd fd' nst stb hst x0 x1' xy y1 => ⟨t1, st, _, _, rfl, rfl, st_of (fd'.at upd_same t1b), st_of hst, (by simp), sz_of (by simp), (fun e => by cases e), fun _ t ht => ?_⟩⟩
      have fd := fc.trans fd'
      exact q t (.ask i x y) _ _ (fd.trans (Fr.ex fd.bag (Ex.new ht))) (st_of upd_same) (.cons (.str _) (.cons (.int _) (.cons (.int _) (.cons (.int _) .nil)))) ⟨i0, i8, x0, xy, y1⟩
    have f09 := f08.trans (Fr.ex f08.bag x9)
    clear z
    refine s_seq (s_if (b := decide (V.int way = V.int 15)) (et_test (ev_op (ev_var rfl) ev_c (rv_eq rfl))) (fun z Ha xa => ?_) fun z Ha xa => s_next ?_)
    · have fa := f09.trans (Fr.ex f09.bag xa)
      exact ⟨_, rfl, sz_of (by simp), fun t ht => q t (.give num) _ _ (fa.trans (Fr.ex fa.bag (Ex.new ht))) (st_of upd_same) (.cons (.str _) (.cons (.int _) .nil)) nbd⟩
    have fa := f09.trans (Fr.ex f09.bag xa)
    clear z
    -- rows
    refine s_seq ⟨.ref b, rfl, .ref lk, rfl, b, lk, ks, rfl, fa.bag, ky.fr fa, fun pt rs Hb fb' tp hrs hws hrl hup => g_name ?_⟩
    try dsimp only
    have fb := fa.trans fb'
    have Bb := BF fb
    have rb : ∀ r ∈ rs, 0 ≤ r.1 ∧ r.1 < 1000 ∧ 0 ≤ r.2 ∧ r.2 < 1000 := fun r mr => by
      have h1 := ky.bd _ (hrs r mr)
      have h2 := hws r mr
      exact ⟨h1.1, h1.2, h2.1, h2.2⟩
    have td : EvT (tB (tDIn (tVar 4) (tDGet (tVar 1) (tC (.str "pieces"))))) [some (.ref b), some (.ref o), some (.ref lk), some (.ref l4), some (.int num), some (.int way), none, some (.ref pt), none, none, none] Hb (valV (opV l) (.inl num)).isSome := fun G x Q' q' => ⟨.int num, rfl, Bb.at'.e_pieces (i := 1) rfl G x _ fun G2 x2 => ⟨pc, _, rfl, DGet.k (k := .inl num) ((x.trans x2) _ _ Bb.at'.hp), _, rfl, q' G2 x2⟩⟩
    rcases opV_val Bb num with ⟨hx, hv⟩ | ⟨t, mt, en, hx, hv⟩
    · refine s_seq (s_if (b := false) (et_is td (by rw [hv]; rfl)) (fun z => by cases z) fun _ Hc xc => s_next ?_)
      have fc := fb.trans (Fr.ex fb.bag xc)
      refine ⟨_, rfl, _, rfl, sz_of (by simp), fun t ht => q t (.answer num (rowsD rs)) _ _ (fc.trans (Fr.ex fc.bag (Ex.new ht))) (st_of upd_same) (.cons (.str _) (.cons (.int _) (.cons (dp_same (xc.trans (Ex.new ht)) _ _ tp.dp) .nil))) ⟨nbd.1, nbd.2, rs, rfl, by omega, rb⟩⟩
    · refine s_seq (s_if (b := true) (et_is td (by rw [hv]; rfl)) (fun _ Hc xc => ?_) fun z => by cases z)
      have fc := fb.trans (Fr.ex fb.bag xc)
      have Bc := Bb.ex xc
      subst en
      obtain ⟨ta, w0, w1, w2, e2, hta, d0, d1, d2⟩ := dpt3 (show Dp K Hc t.2 (.tuple [.tuple [.int t.1.lo, .int t.1.hi], .bool t.1.uw, camD t.1.came]) from Bc.pc t mt)
      obtain ⟨sa, z0, z1, rfl, hsa, g0, g1⟩ := dpt2 d0
      cases g0
      cases g1
      rw [e2] at hv
      refine s_seq ((ev_ix0 (ev_dgetI (Bc.at'.e_pieces rfl) (ev_var rfl) Bc.at'.hp hv) hta) Hc (Ex.refl Hc) _ fun Hd xd => ?_)
      refine ⟨sa, _, rfl, Evl.ex_t xd hsa, rfl, _, _, rfl, _, _, rfl, rfl, ?_⟩
      try dsimp only
      have fd := fc.trans (Fr.ex fc.bag xd)
      obtain ⟨xs, px, dxs⟩ := id (tp.same (xc.trans xd))
      have hxl : xs.length = rs.length := by rw [dps_len dxs, List.length_map]
      have lcR : EvL (tLc (iTup K (tVar 7)) (gName 10) (tTest (tChain (rI0 fun i j => .bl (decide (i ≤ j))) (rI0 fun i j => .bl (decide (i < j))) (tVar 8) (tOp (rIxT K) (tVar 10) (tC (.int 0))) (tVar 9))) (tVar 10) [10]) [some (.ref b), some (.ref o), some (.ref lk), some (.ref l4), some (.int t.1.num), some (.int way), none, some (.ref pt), some (.int t.1.lo), some (.int t.1.hi), none] Hd (given xs.length (fun n => decide (t.1.lo ≤ (rs.getD n (0, 0)).1) && decide ((rs.getD n (0, 0)).1 < t.1.hi)) fun n => xs.getD n .non) := by
        refine el_lcT (K := K) (a := pt) (xs := xs) _ _ (ev_var rfl) px.st (by omega) (fun z => rfl) (fun n u G5 xg hn => ?_) (fun n u G5 xg hn _ => ev_is (ev_var rfl) (by rw [List.getD_eq_getElem?_getD, hn]; rfl))
        obtain ⟨dd, hd, hu⟩ := dps_at (dps_same xg _ _ dxs) hn
        rw [List.getElem?_map] at hd
        obtain ⟨row, hrow, rfl⟩ := Option.map_eq_some_iff.mp hd
        have eg : rs.getD n (0, 0) = row := by rw [List.getD_eq_getElem?_getD, hrow]; rfl
        rw [eg]
        obtain ⟨pa, u0, u1, rfl, hpa, e0, e1⟩ := dpt2 hu
        cases e0
        exact et_test (ev_chain (p := fun i j => decide (i ≤ j)) (p' := fun i j => decide (i < j)) (ev_var rfl) (ev_ix0 (ev_var rfl) hpa) (ev_var rfl))
      refine tupA (K := K) lcR fun pT H5 x5 ptT npT => ?_
      try dsimp only
      have tpT : TP K H5 pT (rs.filter fun r => decide (t.1.lo ≤ r.1) && decide (r.1 < t.1.hi)) := ⟨_, ptT, dps_given (0, 0) (fun (r : Int × Int) => decide (t.1.lo ≤ r.1) && decide (r.1 < t.1.hi)) (dps_same x5 _ _ dxs)⟩
      have f5' := fd.trans (Fr.ex fd.bag x5)
      refine ⟨_, rfl, _, rfl, sz_of (by simp), fun tt ht => q tt (.answer t.1.num (rowsD (rs.filter fun r => decide (t.1.lo ≤ r.1) && decide (r.1 < t.1.hi)))) _ _ (f5'.trans (Fr.ex f5'.bag (Ex.new ht))) (st_of upd_same) (.cons (.str _) (.cons (.int _) (.cons (dp_same (Ex.new ht) _ _ tpT.dp) .nil))) ⟨nbd.1, nbd.2, _, rfl, ?_, fun r mr => rb r (List.mem_filter.mp mr).1⟩⟩
      have := List.length_filter_le (fun r : Int × Int => decide (t.1.lo ≤ r.1) && decide (r.1 < t.1.hi)) rs
      omega
end
end K27
namespace K27
open PySem L2 L2H PyProof.Rows Tc Evl
theorem sd_e4 {x k : Int} {w : Str} {o : PyData} (hw : PyData.strOk w = true) (ho : sd 0 o = true) : sd 1 (.tuple [.int x, .str w, .int k, o]) = true := by
  show (true && (PyData.strOk w && (true && (sd 0 o && true)))) = true
  rw [hw, ho]
  rfl
theorem sd_evD (a : Int) (c : PyData) : sd 1 (evD a c) = true := by
  unfold evD
  cases (chD c).2 with
  | none => exact sd_e4 (show PyData.strOk "drop" = true by decide +kernel) rfl
  | some z => exact sd_e4 (show PyData.strOk "put" = true by decide +kernel) rfl
theorem sd_cpD (a : Int) (r : Int × Int) : sd 1 (cpD a r) = true := sd_e4 (show PyData.strOk "copy" = true by decide +kernel) rfl
/-- how many keys are sure -/
def kn (f : Kn) : Nat := (allKs.filter fun k => (f k).isSome).length
theorem allKs_nd : allKs.Nodup := by
  unfold allKs
  rw [List.Nodup, List.pairwise_map]
  exact List.pairwise_lt_range.imp fun {a b} z e => by omega
theorem kn_le (f : Kn) : kn f ≤ 1000 := by
  have := List.length_filter_le (fun k => (f k).isSome) allKs
  rw [allKs_len] at this
  exact this
theorem kn_mono {f g : Kn} (h : ∀ k, (f k).isSome = true → (g k).isSome = true) : kn f ≤ kn g :=
  len_sub (allKs_nd.sublist List.filter_sublist) fun k mk => by
    obtain ⟨m1, m2⟩ := List.mem_filter.mp mk
    exact List.mem_filter.mpr ⟨m1, h k m2⟩
theorem kn_copies {f : Kn} {lo hi : Int} {rs : List (Int × Int)} (ri : RowsIn lo hi rs) (h0 : 0 ≤ lo) (h1 : hi ≤ 1000) : (newOnes f rs).length + kn f ≤ kn (learnP f lo hi rs) := by
  have nd : ((newOnes f rs).map (·.1) ++ allKs.filter fun k => (f k).isSome).Nodup := by
    refine List.nodup_append.mpr ⟨?_, allKs_nd.sublist List.filter_sublist, fun x hx y hy e => ?_⟩
    · rw [List.Nodup, List.pairwise_map]
      exact (ri.up.filter _).imp fun {a b} z e => by omega
    · obtain ⟨r, mr, rfl⟩ := List.mem_map.mp hx
      have h2 := (List.mem_filter.mp mr).2
      have h3 := (List.mem_filter.mp hy).2
      rw [← e] at h3
      cases hf : f r.1 with
      | none => rw [hf] at h3; cases h3
      | some z => rw [hf] at h2; cases h2
  have := len_sub (m := allKs.filter fun k => (learnP f lo hi rs k).isSome) nd fun k mk => by
    rcases List.mem_append.mp mk with mk | mk
    · obtain ⟨r, mr, rfl⟩ := List.mem_map.mp mk
      have hr := ri.inn r (List.mem_filter.mp mr).1
      exact List.mem_filter.mpr ⟨allKs_mem (by omega) (by omega), (learn_here r.1).mpr (.inr hr)⟩
    · obtain ⟨m1, m2⟩ := List.mem_filter.mp mk
      exact List.mem_filter.mpr ⟨m1, (learn_here k).mpr (.inl m2)⟩
  rw [List.length_append, List.length_map] at this
  exact this
theorem learnCs_mono : ∀ (cs : List (Int × Option Int)) (f : Kn) (k : Int), (f k).isSome = true → (learnCs f cs k).isSome = true
  | [], _, _, h => h
  | c :: cs, f, k, h => learnCs_mono cs (kset f c.1 c.2) k ((kset_some f c.1 c.2 k).mpr (.inl h))
/-- what stays true of a taker, step by step -/
structure Inv (m : TM) (j : Nat) : Prop where
  ev : m.ev.length ≤ 6 * j + kn m.f
  sd' : ∀ e ∈ m.ev, sd 1 e = true
  nu : ∀ n ∈ m.nums, 0 ≤ n ∧ n < 8
  nl : m.nums.length ≤ j
  pl : m.pcs.length ≤ j
theorem Inv.few {m : TM} {j : Nat} (h : Inv m j) (hj : j ≤ 600) : TFew m := ⟨by have := h.ev; have := kn_le m.f; omega, by have := h.nl; omega, by have := h.pl; omega⟩
/-- a step as it is done: spoilt, too -/
def stC : TSt → Prop
  | .take d => goodEn allKs d = true ∧ (chsD d).length ≤ 6 ∧ (numOf d).natAbs.log2 < 1920 ∧ nl 3 d = true
  | .ask i a b => 0 ≤ i ∧ i < 8
  | .answer i d => 0 ≤ i ∧ i < 8 ∧ Short d
  | .give i => 0 ≤ i ∧ i < 8
theorem stC.ok {s : TSt} (h : stC s) : tsOk s := by
  cases s with
  | take d => exact ⟨h.1, by have := h.2.1; omega, h.2.2.1⟩
  | ask i a b => exact trivial
  | answer i d => exact stB.ok (ks := []) (s := .give i) ⟨h.1, h.2.1⟩
  | give i => exact stB.ok (ks := []) (s := .give i) h
theorem stB.c {ks : List Int} {s : TSt} (h : stB ks s) : stC s := by
  cases s with
  | take d => exact h
  | ask i a b => exact ⟨h.1, h.2.1⟩
  | answer i d =>
    obtain ⟨h1, h2, rs, rfl, h3, _⟩ := h
    exact ⟨h1, h2, fun ds e => by cases e; rw [List.length_map]; omega⟩
  | give i => exact h
theorem Inv.step {m m' : TM} {j : Nat} {s : TSt} (h : Inv m j) (po : ∀ x ∈ m.pcs, PcOk x) (hs : stC s) (e : tdo m s = .ok m') : Inv m' (j + 1) := by
  have h1 := h.ev
  have h2 := h.nl
  have h3 := h.pl
  cases s with
  | take d =>
    dsimp only [tdo] at e
    cases ht : tTake m d with
    | none => rw [ht] at e; cases e
    | some m2 =>
      rw [ht] at e
      cases e
      rcases en_kind hs.1 with ⟨cs, rfl, hcs⟩ | ⟨wd, lf, n, rfl, hns⟩
      · have hl : cs.length ≤ 6 := hs.2.1
        cases ht
        refine ⟨?_, fun x mx => ?_, h.nu, by show m.nums.length ≤ _; omega, by show m.pcs.length ≤ _; omega⟩
        · show (m.ev ++ cs.map (evD m.at')).length ≤ 6 * (j + 1) + kn (learnCs m.f (cs.map chD))
          rw [List.length_append, List.length_map]
          have := kn_mono (learnCs_mono (cs.map chD) m.f)
          omega
        · rcases List.mem_append.mp mx with mx | mx
          · exact h.sd' x mx
          · obtain ⟨c, _, rfl⟩ := List.mem_map.mp mx
            exact sd_evD _ _
      · have ht2 : (if lf = m.life then (match pcOf m n with
            | some x => (tkMark m wd x).map onT
            | none => some (onT m)) else some (onT m)) = some m' := ht
        have keep : ∀ m1 : TM, m1.ev = m.ev → m1.f = m.f → m1.nums = m.nums → m1.pcs.length ≤ m.pcs.length → Inv (onT m1) (j + 1) := fun m1 a1 a2 a3 a4 => ⟨by show m1.ev.length ≤ _ + kn m1.f; rw [a1, a2]; omega, by show ∀ e ∈ m1.ev, _; rw [a1]; exact h.sd', by show ∀ n ∈ m1.nums, _; rw [a3]; exact h.nu, by show m1.nums.length ≤ _; rw [a3]; omega, by show m1.pcs.length ≤ _; omega⟩
        by_cases hl : lf = m.life
        · rw [if_pos hl] at ht2
          cases hx : pcOf m n with
          | none =>
            rw [hx] at ht2
            cases ht2
            exact keep m rfl rfl rfl (Nat.le_refl _)
          | some x =>
            rw [hx] at ht2
            have ht3 : (tkMark m wd x).map onT = some m' := ht2
            obtain ⟨m1, hm1, rfl⟩ := Option.map_eq_some_iff.mp ht3
            have px : PcOk x := po x (List.mem_of_find?_eq_some hx)
            unfold tkMark at hm1
            by_cases hw : wd = "low"
            · rw [if_pos hw] at hm1
              cases hm1
              exact keep _ rfl rfl rfl (by show (m.pcs.map _).length ≤ _; rw [List.length_map]; omega)
            · rw [if_neg hw] at hm1
              have fl : (m.pcs.filter fun y => !decide (y.num = x.num)).length ≤ m.pcs.length := List.length_filter_le _ _
              by_cases hu : x.uw = true
              · rw [if_pos hu] at hm1
                cases hc : x.came with
                | none => rw [hc] at hm1; cases hm1
                | some rs =>
                  rw [hc] at hm1
                  cases hm1
                  obtain ⟨r1, r2⟩ := px.r rs hc
                  have ri : RowsIn x.lo x.hi rs := ⟨r2, fun r mr => ⟨(r1 r mr).1, (r1 r mr).2.1⟩, fun r mr => (r1 r mr).2.2⟩
                  have hk := kn_copies (f := m.f) ri px.a px.c
                  refine ⟨?_, fun y my => ?_, h.nu, by show m.nums.length ≤ _; omega, by show (m.pcs.filter _).length ≤ _; omega⟩
                  · show (m.ev ++ (copiesOf rs (newKeys m.f x.lo x.hi)).map (cpD m.at')).length ≤ 6 * (j + 1) + kn (learnP m.f x.lo x.hi rs)
                    rw [copies_are ri, List.length_append, List.length_map]
                    omega
                  · have my' : y ∈ m.ev ++ (copiesOf rs (newKeys m.f x.lo x.hi)).map (cpD m.at') := my
                    rcases List.mem_append.mp my' with my | my
                    · exact h.sd' y my
                    · obtain ⟨c, _, rfl⟩ := List.mem_map.mp my
                      exact sd_cpD _ _
              · rw [if_neg hu] at hm1
                cases hm1
                exact keep _ rfl rfl rfl fl
        · rw [if_neg hl] at ht2
          cases ht2
          exact keep m rfl rfl rfl (Nat.le_refl _)
  | ask i a b =>
    dsimp only [tdo] at e
    split at e
    · cases e
    · split at e
      · cases e
        refine ⟨by show m.ev.length ≤ _ + kn m.f; omega, h.sd', fun n mn => ?_, by show (m.nums ++ [i]).length ≤ _; rw [List.length_append, List.length_cons, List.length_nil]; omega, by show (m.pcs ++ [_]).length ≤ _; rw [List.length_append, List.length_cons, List.length_nil]; omega⟩
        rcases List.mem_append.mp mn with mn | mn
        · exact h.nu n mn
        · rw [List.mem_singleton.mp mn]
          exact hs
      · cases e
  | answer i d =>
    dsimp only [tdo] at e
    split at e
    · cases e
    · split at e
      · cases e
      · split at e
        · cases e
          exact ⟨by show m.ev.length ≤ _ + kn m.f; omega, h.sd', h.nu, by show m.nums.length ≤ _; omega, by show (m.pcs.map _).length ≤ _; rw [List.length_map]; omega⟩
        · cases e
  | give i =>
    dsimp only [tdo] at e
    split at e
    · cases e
    · cases e
      have fl : (m.pcs.filter fun y => !decide (y.num = i)).length ≤ m.pcs.length := List.length_filter_le _ _
      exact ⟨by show m.ev.length ≤ _ + kn m.f; omega, h.sd', h.nu, by show m.nums.length ≤ _; omega, by show (m.pcs.filter _).length ≤ _; omega⟩
/-- bag, keys, a taker, what is kept beside -/
structure LW (K : PySem.W.Frag) (C Cp : Addr) (H0 : Hp) (b lk p o : Addr) (ks : List Int) (m mw : TM) (X Y : Addr → Prop) (H : Hp) : Prop where
  x0 : Ex H0 H
  bag : Bag H b
  nb : H0 b = none
  ky : KeysAt b H lk ks
  tk : TkM K C Cp H p m X
  ow : OwM K H o mw Y
  xb : ¬ X b
  yb : ¬ Y b
  xk : ¬ X lk
  yk : ¬ Y lk
  xn : ∀ a, X a → H0 a = none
  yn : ∀ a, Y a → H0 a = none
  xy : ∀ a, X a → ¬ Y a
section
variable {K : PySem.W.Frag} {C Cp : Addr} {H0 H H' : Hp} {b lk p o : Addr} {ks : List Int} {m m' mw mw' : TM} {X Y : Addr → Prop}
theorem LW.ex (S : LW K C Cp H0 b lk p o ks m mw X Y H) (x : Ex H H') : LW K C Cp H0 b lk p o ks m mw X Y H' :=
  ⟨S.x0.trans x, (Fr.ex S.bag x).bag, S.nb, S.ky.fr (Fr.ex S.bag x), S.tk.ex x, S.ow.ex x, S.xb, S.yb, S.xk, S.yk, S.xn, S.yn, S.xy⟩
theorem LW.fr (S : LW K C Cp H0 b lk p o ks m mw X Y H) (f : Tc.Fr b H H') : LW K C Cp H0 b lk p o ks m mw X Y H' :=
  ⟨fun a o h => f.at (S.x0 a o h) (ne_of_none h S.nb), f.bag, S.nb, S.ky.fr f, S.tk.fr S.bag f S.xb, S.ow.fr S.bag f S.yb, S.xb, S.yb, S.xk, S.yk, S.xn, S.yn, S.xy⟩
theorem LW.tout (S : LW K C Cp H0 b lk p o ks m mw X Y H) (q : TOut K C Cp H p X m' H') : ∃ X', LW K C Cp H0 b lk p o ks m' mw X' Y H' ∧ Kt H H' := by
  obtain ⟨X', S', off, sub⟩ := q
  obtain ⟨x, y, hb, r⟩ := S.bag
  have no : ∀ (a : Addr) (o : HO), ¬ X a → H a = some o → ¬ X' a := fun a o n h z => by
    rcases sub _ z with z | z
    · exact n z
    · rw [h] at z
      cases z
  have kt := Off.kt S.tk.noT off
  refine ⟨X', ⟨fun a o h => off a o (fun z => by rw [S.xn a z] at h; cases h) (S.x0 a o h), ⟨x, y, off _ _ S.xb hb, r⟩, S.nb, ⟨S.ky.ne, off _ _ S.xk S.ky.h, S.ky.bd, S.ky.few, S.ky.some⟩, S', S.ow.keep (fun a u ya h => off a u (fun xa => S.xy a xa ya) h) kt, no _ _ S.xb hb, S.yb, no _ _ S.xk S.ky.h, S.yk, fun a z => ?_, S.yn, fun a xa ya => ?_⟩, kt⟩
  · rcases sub a z with z | z
    · exact S.xn a z
    · exact fresh_back S.x0 z
  · obtain ⟨u, hu, _⟩ := S.ow.noT a ya
    exact no a u (fun z => S.xy a z ya) hu xa
theorem LW.oout (S : LW K C Cp H0 b lk p o ks m mw X Y H) (q : OOut K H o Y mw' H') : LW K C Cp H0 b lk p o ks m mw' X Y H' ∧ Kt H H' := by
  obtain ⟨S', off⟩ := q
  obtain ⟨x, y, hb, r⟩ := S.bag
  have kt := Off.kt S.ow.noT off
  exact ⟨⟨fun a o h => off a o (fun z => by rw [S.yn a z] at h; cases h) (S.x0 a o h), ⟨x, y, off _ _ S.yb hb, r⟩, S.nb, ⟨S.ky.ne, off _ _ S.yk S.ky.h, S.ky.bd, S.ky.few, S.ky.some⟩, S.tk.keep (fun a u xa h => off a u (S.xy a xa) h) kt, S', S.xb, S.yb, S.xk, S.yk, S.xn, S.yn, S.xy⟩, kt⟩
end
end K27
/-! x == y by an own __eq__ that tells True or False -/
namespace Tc
open PySem PySem.Spec PyProof.Rows L2
def rEqO (K : PySem.W.Frag) (C : Addr) (sp : Sp) : R2 := fun x y H Q => ∃ (a dx : Addr) (fs : List (Str × V)) (t : Value), x = .ref a ∧ H a = some (.ins C dx fs) ∧ TyX K H y t ∧ PySem.W.notFirst K C t = true ∧ sp [.ref a, y] H (fun v H' => ∃ b, v = .bl b ∧ Q (.bl b) H') E0
theorem op_eqO {X : Cx} {C f : Addr} {fd : FuncData} {n : Nat} {sp : Sp} (hr : Room n X.A) (hl : Meth X.K C "__eq__" f) (F : FnOk X.prog X.w X.K X.mg X.base CX0 n f fd ["self", "other"] sp) (hb : Binds X.K fd ["self", "other"] []) : OpR X (compareOp .Eq) (rEqO X.K C sp) := by
  intro pins s σ H x y v u Q I rx ry ⟨a, dx, fs, t, ex, ha, ty, hn, hsp⟩
  subst ex
  cases (show v = Value.ref a from rx)
  obtain ⟨P, Z, p, _⟩ := kit_of I ry ty
  obtain ⟨mA, J, _⟩ := ins_get I.hok ha
  obtain ⟨od, J, _⟩ := J.look
  obtain ⟨m, hF⟩ := I.fr
  show wpAny (model X.prog X.w) X.A (richCompare .Eq (.ref a) u) (EP X pins σ Q) X.xe s
  refine PySem.W.cmp_K (op := .Eq) (tb := t) hr.units0 hF I.ok.mod.kin J (Z.ty _ _ I.kIn p) hn hl.at_ hl.fn ?_
  have two : Vals [V.ref a, y] [Value.ref a, u] := .cons rfl (.cons ry .nil)
  have len := F.len _ _ _ _ hsp
  refine wpAny_call (codeAny_mono (F.run X.A X.stack s H ⟨[.ref a, u], []⟩ [.ref a, u] [.ref a, y] _ E0 hr I.env0 (by
    have := hb s [.ref a, u] I.kIn (by simpa using len)
    simpa using this) two hsp) fun res s' hq => ?_)
  cases res with
  | error e => exact pass0 pins σ H s e s' I hq
  | ok fl =>
    cases fl with
    | next => exact hq.elim
    | brk => exact hq.elim
    | cont => exact hq.elim
    | ret w =>
      obtain ⟨z, H', I', rz, b, ez, q⟩ := I.after hq
      subst ez
      cases rz
      exact ⟨.bl b, H', I', rfl, q⟩
/-- what isinstance and == want of a class -/
def kitB (K : PySem.W.Frag) (C : Addr) : Bool := He.eqO (PySem.W.findIn K (.ref C) "__class__") (some (some (.builtin "object.__class__"))) && (He.eqO (PySem.W.specialIn K (.builtin "object.__class__") "__get__") (some (some (.builtin "getset_descriptor.__get__"))) && (decide (PySem.W.takesIn K (.builtin "object.__class__") = some true) && (decide (PySem.W.mroIn K C (.type "object") = some true) &&
  (decide (PySem.W.kitOne K (.ref C) (.ref C) = some true) && (decide (PySem.W.kitOne K (.type "tuple") (.ref C) = some false) && (decide (PySem.W.kitOne K (.type "list") (.ref C) = some false) && (PySem.W.notFirst K C (.ref C) && (PySem.W.notFirst K C (.type "tuple") && PySem.W.notFirst K C (.type "list")))))))))
structure KitC (K : PySem.W.Frag) (C : Addr) : Prop where
  ha : PySem.W.findIn K (.ref C) "__class__" = some (some (.builtin "object.__class__"))
  hn : PySem.W.specialIn K (.builtin "object.__class__") "__get__" = some (some (.builtin "getset_descriptor.__get__"))
  htk : PySem.W.takesIn K (.builtin "object.__class__") = some true
  hm : PySem.W.mroIn K C (.type "object") = some true
  own : PySem.W.kitOne K (.ref C) (.ref C) = some true
  tup : PySem.W.kitOne K (.type "tuple") (.ref C) = some false
  lst : PySem.W.kitOne K (.type "list") (.ref C) = some false
  nO : PySem.W.notFirst K C (.ref C) = true
  nT : PySem.W.notFirst K C (.type "tuple") = true
  nL : PySem.W.notFirst K C (.type "list") = true
theorem kitB_ok {K : PySem.W.Frag} {C : Addr} (h : kitB K C = true) : KitC K C := by
  obtain ⟨h1, h⟩ := He.ba h
  obtain ⟨h2, h⟩ := He.ba h
  obtain ⟨h3, h⟩ := He.ba h
  obtain ⟨h4, h⟩ := He.ba h
  obtain ⟨h5, h⟩ := He.ba h
  obtain ⟨h6, h⟩ := He.ba h
  obtain ⟨h7, h⟩ := He.ba h
  obtain ⟨h8, h⟩ := He.ba h
  obtain ⟨h9, h⟩ := He.ba h
  exact ⟨He.eqO_ok h1, He.eqO_ok h2, of_decide_eq_true h3, of_decide_eq_true h4, of_decide_eq_true h5, of_decide_eq_true h6, of_decide_eq_true h7, h8, h9, h⟩
theorem KitC.ins {K : PySem.W.Frag} {C : Addr} (k : KitC K C) (cl : Cls K C) {H : Hp} {a dx : Addr} {fs : List (Str × V)} (e : H a = some (.ins C dx fs)) : TyX K H (.ref a) (.ref C) := .base (.ins e cl k.ha k.hn k.htk k.hm)
end Tc
/-! data made on the way, beside a bag -/
namespace Tc
open PySem L2 Evl
section
variable {K : PySem.W.Frag} {b : Addr} {σ : L2.St} {H : Hp}
/-- te makes data d, of which nothing is the bag -/
def EvDb (K : PySem.W.Frag) (b : Addr) (te : TE) (σ : L2.St) (H : Hp) (d : PyData) : Prop := ∀ H1, Ex H H1 → ∀ Q : VK, (∀ v H2, Ex H1 H2 → Dp K (hid b H2) v d → Q v H2) → te σ H1 Q
def EvDs (K : PySem.W.Frag) (b : Addr) (ta : TA) (σ : L2.St) (H : Hp) (ds : List PyData) : Prop := ∀ H1, Ex H H1 → ∀ Q : List V → Hp → Prop, (∀ vs H2, Ex H1 H2 → DpAll K (hid b H2) vs ds → Q vs H2) → ta σ H1 Q
theorem hid_ex {H' : Hp} {o : HO} (hb : H b = some o) (x : Ex H H') : Same (hid b H) (hid b H') := fun a u e => by
  have e1 := hid_same b H a u e
  have e2 : a ≠ b := fun z => by
    rw [z, hid_self] at e
    cases e
  exact hid_at (x _ _ e1) e2
theorem ed_ev {te : TE} {v : V} {d : PyData} (h : Ev te σ H v) (k : ∀ H', Dp K H' v d) : EvDb K b te σ H d := fun H1 x Q q => h H1 x Q fun H2 x2 => q v H2 x2 (k _)
theorem ed_var {i : Nat} {v : V} {d : PyData} {o : HO} (hb : H b = some o) (hi : σ[i]? = some (some v)) (h : Dp K (hid b H) v d) : EvDb K b (tVar i) σ H d := fun H1 x Q q => ⟨v, hi, q v H1 (Ex.refl H1) (dp_same (hid_ex hb x) _ _ h)⟩
theorem ed_int {i : Int} : EvDb K b (tC (.int i)) σ H (.int i) := fun H1 _ Q q => q _ H1 (Ex.refl H1) (.int i)
theorem ed_str {s : Str} : EvDb K b (tC (.str s)) σ H (.str s) := fun H1 _ Q q => q _ H1 (Ex.refl H1) (.str s)
theorem ed_non : EvDb K b (tC .non) σ H .none := fun H1 _ Q q => q _ H1 (Ex.refl H1) .non
theorem eds_nil : EvDs K b tNil σ H [] := fun H1 _ Q q => q [] H1 (Ex.refl H1) .nil
theorem EvDs.mono {ta : TA} {ds : List PyData} {H' : Hp} (x : Ex H H') (h : EvDs K b ta σ H ds) : EvDs K b ta σ H' ds := fun H1 y => h H1 (x.trans y)
theorem eds_cons {te : TE} {ta : TA} {d : PyData} {ds : List PyData} {o : HO} (hb : H b = some o) (h : EvDb K b te σ H d) (r : EvDs K b ta σ H ds) : EvDs K b (tCons te ta) σ H (d :: ds) := fun H1 x Q q =>
  h H1 x _ fun v H2 x2 dv => r H2 (x.trans x2) _ fun vs H3 x3 dvs => q (v :: vs) H3 (x2.trans x3) (.cons (dp_same (hid_ex ((x.trans x2) _ _ hb) x3) _ _ dv) dvs)
theorem ed_tup {ta : TA} {ds : List PyData} {o : HO} (hb : H b = some o) (h : EvDs K b ta σ H ds) (l : ds.length ≤ 1000) : EvDb K b (tTup ta) σ H (.tuple ds) := fun H1 x Q q =>
  h H1 x _ fun vs H2 x2 dvs => ⟨sz_of (by have := dps_len dvs; omega), fun t n => q (.ref t) _ (x2.trans (Ex.new n)) (by
    have nb : t ≠ b := (ne_of_none ((x.trans x2) _ _ hb) n).symm
    exact .tup (st_of (hid_at upd_same nb)) (dps_same (hid_ex ((x.trans x2) _ _ hb) (Ex.new n)) _ _ dvs))⟩
theorem ed_lst {ta : TA} {ds : List PyData} {o : HO} (hb : H b = some o) (h : EvDs K b ta σ H ds) (l : ds.length ≤ 1000) : EvDb K b (tLst ta) σ H (.list ds) := fun H1 x Q q =>
  h H1 x _ fun vs H2 x2 dvs => ⟨sz_of (by have := dps_len dvs; omega), fun t n => q (.ref t) _ (x2.trans (Ex.new n)) (by
    have nb : t ≠ b := (ne_of_none ((x.trans x2) _ _ hb) n).symm
    exact .lst (sq_of (hid_at upd_same nb)) (dps_same (hid_ex ((x.trans x2) _ _ hb) (Ex.new n)) _ _ dvs))⟩
/-- tuples put together -/
theorem ed_catT {ta tb : TE} {ds es : List PyData} {o : HO} (hb : H b = some o) (ha : EvDb K b ta σ H (.tuple ds)) (he : EvDb K b tb σ H (.tuple es)) (n1 : ds ≠ []) (n2 : es ≠ []) (l : ds.length + es.length ≤ 1000) : EvDb K b (tOp (rCatT K) ta tb) σ H (.tuple (ds ++ es)) := fun H1 x Q q =>
  ha H1 x _ fun v H2 x2 dv => he H2 (x.trans x2) _ fun u H3 x3 du => by
    cases dp_same (hid_ex ((x.trans x2) _ _ hb) x3) _ _ dv with
    | @tup a1 xs _ h1 r1 =>
      cases du with
      | @tup a2 ys _ h2 r2 =>
        have l1 := dps_len r1
        have l2 := dps_len r2
        refine ⟨_, _, _, _, rfl, rfl, Evl.ex_t (hid_same b H3) h1, Evl.ex_t (hid_same b H3) h2, fun e => n1 (by rw [e] at l1; exact List.length_eq_zero_iff.mp l1.symm), sz_of (by omega), (fun e => absurd (by rw [e] at l2; exact List.length_eq_zero_iff.mp l2.symm) n2), fun _ t n => q (.ref t) _ ((x2.trans x3).trans (Ex.new n)) ?_⟩
        have hb3 := ((x.trans x2).trans x3) _ _ hb
        exact .tup (st_of (hid_at upd_same (ne_of_none hb3 n).symm)) (dps_same (hid_ex hb3 (Ex.new n)) _ _ (dps_app r1 r2))
theorem ev_ng {ta : TE} {i : Int} (h : Ev ta σ H (.int i)) : Ev (tUn (rU fun i => .int (-i)) ta) σ H (.int (-i)) := fun H1 x Q q => h H1 x _ fun H2 x2 => ⟨i, rfl, q H2 x2⟩
end
end Tc
/-! a comprehension that makes data, by any walk -/
namespace Tc
open PySem L2 Evl
theorem lc_dataW {K : PySem.W.Frag} {σ : L2.St} {H : Hp} {wi : TI} {J : It} {n : Nat} {G : Hp → Prop} {Y : Nat → Hp → V → Hp → Prop} (w : Walk J n G Y) {g : TG} {t : TT} {te : TE} {vs : List Nat} {Q : VK} {α : Type} {k : Nat} (zs : List α) (p : α → Bool) (h : α → PyData) (B : α → L2.St → Hp → Prop) (hw : ∀ R : It → Hp → Prop, R J H → wi σ H R) (hn : zs.length = n) (few : n ≤ 40000)
    (hG : ∀ H', Ex H H' → G H')
    (hb : ∀ i z x H1 H2, zs[i]? = some z → Ex H H1 → Y i H1 x H2 → Ex H1 H2 ∧ ∀ R : L2.St → Hp → Prop, (∀ σ2, wipe σ2 vs = wipe σ vs → B z σ2 H2 → R σ2 H2) → g x (wipe σ vs) H2 R)
    (ht : ∀ z σ2 H2, z ∈ zs → Ex H H2 → B z σ2 H2 → EvT t σ2 H2 (p z))
    (he : ∀ z σ2 H2 H3, z ∈ zs → Ex H H2 → B z σ2 H2 → Ex H2 H3 → p z = true → ∀ Q : VK, (∀ y H4, Ex H3 H4 → Dp K H4 y (h z) → Q y H4) → te σ2 H3 Q)
    (nlh : ∀ z ∈ zs, nl k (h z) = true)
    (hd : ∀ D acc H', H D = none → Ex H H' → H' D = some (.lst acc) → DpAll K H' acc ((zs.filter p).map h) → Q (.ref D) H') : tLc wi g t te vs σ H Q := hw _ fun D hD => by
  refine lc_it w (fun i H' => Ex H H' ∧ ∃ acc, H' D = some (.lst acc) ∧ acc.length ≤ i ∧ DpAll K H' acc (((zs.take i).filter p).map h)) ⟨Ex.new hD, [], upd_same, Nat.le_refl _, .nil⟩ (fun i H' _ q => hG H' q.1) (fun i x H' G' hi q y => ?_) (fun H' q => ?_)
  · obtain ⟨xH, acc, hacc, la, dacc⟩ := q
    obtain ⟨z, hz⟩ : ∃ z, zs[i]? = some z := ⟨_, List.getElem?_eq_getElem (by omega)⟩
    have mz : z ∈ zs := List.mem_of_getElem? hz
    have tk : zs.take (i + 1) = zs.take i ++ [z] := by
      rw [List.take_succ, hz]
      rfl
    obtain ⟨xG, bind⟩ := hb i z x H' G' hz xH y
    refine bind _ fun σ2 hw hB => ⟨hw, ?_⟩
    refine ht z σ2 G' mz (xH.trans xG) hB G' (Ex.refl G') _ fun H3 x3 => ?_
    cases e : p z with
    | true =>
      rw [if_pos rfl]
      refine he z σ2 G' H3 mz (xH.trans xG) hB x3 e _ fun y H4 x4 dy => ⟨acc, x4 _ _ (x3 _ _ (xG _ _ hacc)), sz_lt (by omega), ?_, acc ++ [y], upd_same, by rw [List.length_append]; simp only [List.length_cons, List.length_nil]; omega, ?_⟩
      · intro b o hb
        rw [upd_ne (ne_of_none hb hD)]
        exact x4 _ _ (x3 _ _ (xG _ _ (xH _ _ hb)))
      · rw [tk, List.filter_append, List.filter_cons_of_pos e, List.filter_nil, List.map_append]
        refine (kt_put (x4 _ _ (x3 _ _ (xG _ _ hacc)))).dps (n := k) (fun u mu => ?_) (dps_app (dps_same ((xG.trans x3).trans x4) _ _ dacc) (.cons dy .nil))
        rcases List.mem_append.mp mu with mu | mu
        · obtain ⟨u', mu', rfl⟩ := List.mem_map.mp mu
          exact nlh u' (List.mem_of_mem_take ((List.mem_filter.mp mu').1))
        · rw [List.mem_singleton.mp mu]
          exact nlh z mz
    | false =>
      rw [if_neg Bool.false_ne_true]
      refine ⟨(xH.trans xG).trans x3, acc, x3 _ _ (xG _ _ hacc), Nat.le_succ_of_le la, ?_⟩
      rw [tk, List.filter_append, List.filter_cons_of_neg (by rw [e]; exact Bool.false_ne_true), List.filter_nil, List.append_nil]
      exact dps_same (xG.trans x3) _ _ dacc
  · obtain ⟨xH, acc, hacc, la, dacc⟩ := q
    rw [← hn, List.take_length] at dacc
    exact hd D acc H' hD xH hacc dacc
end Tc
/-! a heap in parts that lie apart; a comprehension over range that makes anything -/
namespace Tc
open PySem L2 Evl
/-- a part of the heap: its places, and what holds of it -/
structure Part where
  X : Addr → Prop
  A : Hp → Prop
  keep : ∀ H H', A H → (∀ a u, X a → H a = some u → H' a = some u) → Kt H H' → A H'
  noT : ∀ H, A H → ∀ a, X a → NoT H a
def Part.non : Part := ⟨fun _ => False, fun _ => True, fun _ _ _ _ _ => trivial, fun _ _ _ h => h.elim⟩
def pset {ι : Type} [DecidableEq ι] (p : ι → Part) (i : ι) (t : Part) : ι → Part := fun j => if j = i then t else p j
theorem pset_same {ι : Type} [DecidableEq ι] {p : ι → Part} {i : ι} {t : Part} : pset p i t i = t := if_pos rfl
theorem pset_ne {ι : Type} [DecidableEq ι] {p : ι → Part} {i j : ι} {t : Part} (h : j ≠ i) : pset p i t j = p j := if_neg h
/-- all parts hold, each apart from the others, none of what was there -/
structure Wd {ι : Type} (fx : ι → Prop) (H0 : Hp) (p : ι → Part) (H : Hp) : Prop where
  x0 : Ex H0 H
  a : ∀ j, (p j).A H
  d : ∀ i j, i ≠ j → ∀ x, (p i).X x → ¬ (p j).X x
  n : ∀ j x, (p j).X x → H0 x = none ∨ fx j
section
variable {ι : Type} [DecidableEq ι] {H0 H H' : Hp} {p : ι → Part} {fx : ι → Prop}
theorem Wd.ex (W : Wd fx H0 p H) (x : Ex H H') : Wd fx H0 p H' := ⟨W.x0.trans x, fun j => (p j).keep H H' (W.a j) (fun a u _ h => x a u h) (Kt.ex x), W.d, W.n⟩
theorem Wd.chg (W : Wd fx H0 p H) (i : ι) (t : Part) (nf : ¬ fx i) (off : Off (p i).X H H') (sub : ∀ a, t.X a → (p i).X a ∨ H a = none) (ht : t.A H') : Wd fx H0 (pset p i t) H' ∧ Kt H H' := by
  have kt : Kt H H' := Off.kt ((p i).noT H (W.a i)) off
  have ap : ∀ j, j ≠ i → ∀ x, t.X x → ¬ (p j).X x := fun j hj x tx px => by
    rcases sub x tx with h | h
    · exact W.d i j (fun e => hj e.symm) x h px
    · obtain ⟨u, hu, _⟩ := (p j).noT H (W.a j) x px
      rw [h] at hu
      cases hu
  refine ⟨⟨fun a o h => off a o (fun z => by rw [(W.n i a z).resolve_right nf] at h; cases h) (W.x0 a o h), fun j => ?_, fun j k hjk x hx hy => ?_, fun j x hx => ?_⟩, kt⟩
  · by_cases hj : j = i
    · subst hj
      rw [pset_same]
      exact ht
    · rw [pset_ne hj]
      exact (p j).keep H H' (W.a j) (fun a u px h => off a u (fun z => W.d j i hj a px z) h) kt
  · by_cases hj : j = i
    · subst hj
      rw [pset_same] at hx
      have hk : k ≠ j := fun e => hjk e.symm
      rw [pset_ne hk] at hy
      exact ap k hk x hx hy
    · rw [pset_ne hj] at hx
      by_cases hk : k = i
      · subst hk
        rw [pset_same] at hy
        exact ap j hj x hy hx
      · rw [pset_ne hk] at hy
        exact W.d j k hjk x hx hy
  · by_cases hj : j = i
    · subst hj
      rw [pset_same] at hx
      rcases sub x hx with h | h
      · exact W.n j x h
      · exact .inl (fresh_back W.x0 h)
    · rw [pset_ne hj] at hx
      exact W.n j x hx
/-- the same parts, one of them changed within -/
theorem Wd.same (W : Wd fx H0 p H) (i : ι) (nf : ¬ fx i) (off : Off (p i).X H H') (ht : (p i).A H') : Wd fx H0 p H' ∧ Kt H H' := by
  have e : pset p i (p i) = p := funext fun j => by
    by_cases hj : j = i
    · subst hj
      exact pset_same
    · exact pset_ne hj
  have r := W.chg i (p i) nf off (fun a z => .inl z) ht
  rw [e] at r
  exact r
theorem Wd.to {q : ι → Part} (W : Wd fx H0 p H) (e : ∀ j, q j = p j) : Wd fx H0 q H := by
  have : q = p := funext e
  rw [this]
  exact W
end
/-- a list alone: its place, what holds of its values where tuples stay -/
def Part.lst (a : Addr) (vs : List V) (A : Hp → Prop) (hA : ∀ H H', A H → Kt H H' → A H') : Part :=
  ⟨fun x => x = a, fun H => H a = some (.lst vs) ∧ A H, fun H H' h e kt => ⟨e a _ rfl h.1, hA H H' h.2 kt⟩, fun H h x e => by
    subst e
    exact ⟨_, h.1, (fun xs z => by cases z), fun o xs z => by cases z⟩⟩
theorem lc_mk {σ : L2.St} {H : Hp} {wi : TI} {n j : Nat} {vs : List Nat} {te : TE} {Q : VK} (Pv : Nat → List V → Addr → Hp → Prop) (few : n ≤ 1000)
    (hw : ∀ R : It → Hp → Prop, R (Itr 0 n) H → wi σ H R)
    (h0 : ∀ D, H D = none → Pv 0 [] D (upd H D (.lst [])))
    (hs : ∀ (i : Nat) acc D H1, i < n → acc.length = i → H1 D = some (.lst acc) → Pv i acc D H1 → wipe ((wipe σ vs).set j (some (.int (i : Int)))) vs = wipe σ vs ∧ ∀ R : VK, (∀ y H2, H2 D = some (.lst acc) → Pv (i + 1) (acc ++ [y]) D (upd H2 D (.lst (acc ++ [y]))) → R y H2) → te ((wipe σ vs).set j (some (.int (i : Int)))) H1 R)
    (hd : ∀ acc D H', acc.length = n → H' D = some (.lst acc) → Pv n acc D H' → Q (.ref D) H') : tLc wi (gName j) tYes te vs σ H Q := hw _ fun D hD => by
  refine lc_it walk_range (fun i H' => ∃ acc, acc.length = i ∧ H' D = some (.lst acc) ∧ Pv i acc D H') ⟨[], rfl, upd_same, h0 D hD⟩ (fun i H' _ q => trivial) (fun i x H' G' hi q y => ?_) (fun H' q => ?_)
  · obtain ⟨acc, la, hacc, hp⟩ := q
    obtain ⟨rfl, rfl⟩ := y
    obtain ⟨w1, w2⟩ := hs i acc D G' hi la hacc hp
    have e : (0 : Int) + (i : Int) = (i : Int) := by omega
    show gName j (.int (0 + (i : Int))) _ _ _
    rw [e]
    refine ⟨w1, ?_⟩
    unfold tYes
    dsimp only
    rw [if_pos rfl]
    have hlt : acc.length < sizeLine := sz_lt (by omega)
    exact w2 _ fun y H2 h1 h2 => ⟨acc, h1, hlt, acc ++ [y], by rw [List.length_append, la]; rfl, upd_same, h2⟩
  · obtain ⟨acc, la, hacc, hp⟩ := q
    exact hd acc D H' la hacc hp
/-- .. that takes some of the numbers -/
theorem lc_flt {σ : L2.St} {H : Hp} {wi : TI} {n j : Nat} {vs : List Nat} {t : TT} {te : TE} {Q : VK} (f : Nat → Bool) (few : n ≤ 1000)
    (hw : ∀ R : It → Hp → Prop, R (Itr 0 n) H → wi σ H R) (hx : ∀ x, wipe ((wipe σ vs).set j (some x)) vs = wipe σ vs)
    (ht : ∀ (i : Nat) H1, i < n → Ex H H1 → EvT t ((wipe σ vs).set j (some (.int (i : Int)))) H1 (f i))
    (he : ∀ (i : Nat) H1, i < n → Ex H H1 → Ev te ((wipe σ vs).set j (some (.int (i : Int)))) H1 (.int (i : Int)))
    (hd : ∀ D H', H D = none → Ex H H' → H' D = some (.lst (((List.range n).filter f).map fun (i : Nat) => V.int (i : Int))) → Q (.ref D) H') : tLc wi (gName j) t te vs σ H Q := hw _ fun D hD => by
  refine lc_it walk_range (fun i H' => Ex H H' ∧ H' D = some (.lst (((List.range i).filter f).map fun (i : Nat) => V.int (i : Int)))) ⟨Ex.new hD, upd_same⟩ (fun i H' _ q => trivial) (fun i x H' G' hi q y => ?_) (fun H' q => hd D H' hD q.1 q.2)
  obtain ⟨xH, hacc⟩ := q
  obtain ⟨rfl, rfl⟩ := y
  have e : (0 : Int) + (i : Int) = (i : Int) := by omega
  show gName j (.int (0 + (i : Int))) _ _ _
  rw [e]
  refine ⟨hx _, ?_⟩
  refine ht i G' hi xH G' (Ex.refl G') _ fun H3 x3 => ?_
  have l1 : ((List.range i).filter f).length ≤ i := by
    have := List.length_filter_le f (List.range i)
    rw [List.length_range] at this
    exact this
  cases hf : f i with
  | true =>
    rw [if_pos rfl]
    refine he i H3 hi (xH.trans x3) H3 (Ex.refl H3) _ fun H4 x4 => ⟨_, x4 _ _ (x3 _ _ hacc), sz_lt (by rw [List.length_map]; omega), ?_, ?_⟩
    · intro b o hb
      rw [upd_ne (ne_of_none hb hD)]
      exact x4 _ _ (x3 _ _ (xH _ _ hb))
    · rw [upd_same, List.range_succ, List.filter_append, List.filter_cons_of_pos hf, List.filter_nil, List.map_append]
      rfl
  | false =>
    rw [if_neg Bool.false_ne_true]
    refine ⟨xH.trans x3, ?_⟩
    rw [List.range_succ, List.filter_append, List.filter_cons_of_neg (by rw [hf]; exact Bool.false_ne_true), List.filter_nil, List.append_nil]
    exact x3 _ _ hacc
end Tc
namespace K27
open PySem L2 L2H PyProof.Rows Tc Evl
theorem ne_raw {K : PySem.W.Frag} {H : Hp} {x y : V} {d : PyData} {n : Nat} {Q : VK} (h1 : Dp K H x d) (h2 : Dp K H y d) (hs : sd n d = true) (hn : n ≤ 64) (q : Q (.bl false) H) : rNeD K x y H Q :=
  ⟨d, d, h1, h2, sd_sh hs hn, sd_sh hs hn, by rw [sd_eq hs]; exact q⟩
def jsOf (f : Kn) : List Int := ((List.range 1000).filter fun (i : Nat) => ((f (i : Int)).join).isSome).map fun (i : Nat) => (i : Int)
theorem keys_js {kvs : List (Key × V)} {f : Kn} (kd : KD kvs f) : KeysOf (fun k => (f k).join) (jsOf f) := by
  unfold jsOf
  refine ⟨?_, fun k => ?_⟩
  · rw [List.pairwise_map]
    exact (List.pairwise_lt_range.filter _).imp fun {a b} z => by omega
  · rw [List.mem_map]
    constructor
    · rintro ⟨n, m, rfl⟩
      exact (List.mem_filter.mp m).2
    · intro z
      have hs : (f k).isSome = true := by
        cases e : f k with
        | none => dsimp only at z; rw [e] at z; cases z
        | some o => rfl
      have hv : (valV kvs (.inl k)).isSome = true := by rw [kd.val, Option.isSome_map]; exact hs
      obtain ⟨x, hx, e⟩ := List.mem_map.mp (valV_memI.mpr hv)
      obtain ⟨j, hj, e'⟩ := kd.inn x hx
      have ejk : k = j := Sum.inl.inj (e.symm.trans e')
      refine ⟨k.toNat, List.mem_filter.mpr ⟨List.mem_range.mpr (by omega), ?_⟩, by omega⟩
      rw [show ((k.toNat : Nat) : Int) = k by omega]
      exact z
theorem sure_bd {kvs : List (Key × V)} {f : Kn} (kd : KD kvs f) (k : Int) : inSp (spansF (sureL f)) k ↔ (f k).isSome = true := by
  rw [(spans_in (sureL f)).2 k]
  unfold sureL
  rw [List.mem_map]
  constructor
  · rintro ⟨n, m, rfl⟩
    exact (List.mem_filter.mp m).2
  · intro z
    have hv : (valV kvs (.inl k)).isSome = true := by rw [kd.val, Option.isSome_map]; exact z
    obtain ⟨x, hx, e⟩ := List.mem_map.mp (valV_memI.mpr hv)
    obtain ⟨j, hj, e'⟩ := kd.inn x hx
    have ejk : k = j := Sum.inl.inj (e.symm.trans e')
    refine ⟨k.toNat, List.mem_filter.mpr ⟨List.mem_range.mpr (by omega), ?_⟩, by omega⟩
    rw [show ((k.toNat : Nat) : Int) = k by omega]
    exact z
theorem SvAt.dp {K : PySem.W.Frag} {H : Hp} {sv : Addr} {at2 : Int} {rws sp : List (Int × Int)} (h : SvAt K H sv at2 rws sp) : Dp K H (.ref sv) (.tuple [.int at2, rowsD rws, rowsD sp]) := by
  obtain ⟨pT, pS, h1, h2, h3⟩ := h
  exact .tup h1 (.cons (.int _) (.cons h2.dp (.cons h3.dp .nil)))
/-- what is saved of a taker, as data -/
def svF (a : Int) (f : Kn) : PyData := .tuple [.int a, rowsD (rowsOf (fun k => (f k).join) (jsOf f)), rowsD (spansF (sureL f))]
theorem sd_svF (a : Int) (f : Kn) : sd 3 (svF a f) = true := by
  show (true && (sd 2 (rowsD _) && (sd 2 (rowsD _) && true))) = true
  rw [sd_rows, sd_rows]
  rfl
def spEqM (K : PySem.W.Frag) (C Cp : Addr) : Sp := fun vs H Q _ => ∃ (p : Addr) (m : TM) (X : Addr → Prop) (y : V), vs = [.ref p, y] ∧ TkM K C Cp H p m X ∧
  ((∃ (p2 : Addr) (m2 : TM) (X2 : Addr → Prop), y = .ref p2 ∧ TkM K C Cp H p2 m2 X2 ∧ ∀ H', Ex H H' → Q (.bl (PyData.eqv (svF m.at' m.f) (svF m2.at' m2.f))) H') ∨
  (∃ t, TyX K H y t ∧ PySem.W.kitOne K t (.ref C) = some false ∧ ∀ H', Ex H H' → Q (.bl false) H'))
theorem tk_kj {K : PySem.W.Frag} {C Cp : Addr} {H : Hp} {p : Addr} {m : TM} {X : Addr → Prop} (S : TkM K C Cp H p m X) : KeysOf (fun k => (m.f k).join) (jsOf m.f) := by
  obtain ⟨d, g, pp, nn, kvs, gv, l, B, fx⟩ := S
  exact keys_js B.kd
theorem tk_sb {K : PySem.W.Frag} {C Cp : Addr} {H : Hp} {p : Addr} {m : TM} {X : Addr → Prop} (S : TkM K C Cp H p m X) (k : Int) : inSp (spansF (sureL m.f)) k ↔ (m.f k).isSome = true := by
  obtain ⟨d, g, pp, nn, kvs, gv, l, B, fx⟩ := S
  exact sure_bd B.kd k
theorem begun_same {f : Kn} {sp : List (Int × Int)} {js : List Int} (kj : KeysOf (fun k => (f k).join) js) (hs : ∀ k, inSp sp k ↔ (f k).isSome = true) : learnS (fun _ => none) sp (rowsOf (fun k => (f k).join) js) = f := by
  have hr : ∀ r ∈ rowsOf (fun k => (f k).join) js, inSp sp r.1 := fun r mr => by
    obtain ⟨k, mk, rfl⟩ := List.mem_map.mp mr
    have : ((f k).join).isSome = true := (kj.2 k).mp mk
    refine (hs k).mpr ?_
    cases e : f k with
    | none => rw [e] at this; cases this
    | some o => rfl
  have h1 := begun_rows hr
  rw [fRows_of kj] at h1
  funext k
  have h2 : (f k).join = (learnS (fun _ => none) sp (rowsOf (fun k => (f k).join) js) k).join := congrFun h1 k
  have h3 := (begun_sure (rws := rowsOf (fun k => (f k).join) js) (sp := sp) k).symm.trans (hs k)
  cases e1 : learnS (fun _ => none) sp (rowsOf (fun k => (f k).join) js) k with
  | none =>
    rw [e1] at h3
    cases e2 : f k with
    | none => rfl
    | some o => rw [e2] at h3; exact absurd (h3.mpr rfl) (by simp)
  | some o1 =>
    rw [e1] at h3 h2
    cases e2 : f k with
    | none => rw [e2] at h3; exact absurd (h3.mp rfl) (by simp)
    | some o => rw [e2] at h2; exact congrArg some h2.symm
theorem eqv_rowsD : ∀ (a b : List (Int × Int)), PyData.eqvAll (a.map Tc.pairD) (b.map Tc.pairD) = decide (a = b)
  | [], [] => rfl
  | [], _ :: _ => rfl
  | _ :: _, [] => rfl
  | r :: a, t :: b => by
    rw [List.map_cons, List.map_cons, PyData.eqvAll, eqv_rowsD a b]
    have e : PyData.eqv (Tc.pairD r) (Tc.pairD t) = decide (r = t) := by
      obtain ⟨r1, r2⟩ := r
      obtain ⟨t1, t2⟩ := t
      show PyData.eqv (.tuple [.int r1, .int r2]) (.tuple [.int t1, .int t2]) = _
      simp [PyData.eqv, PyData.eqvAll]
      rfl
    rw [e, ← Bool.decide_and]
    exact decide_eq_decide.mpr ⟨fun z => by rw [z.1, z.2], fun z => by cases z; exact ⟨rfl, rfl⟩⟩
theorem eqv_svF (a a2 : Int) (f f2 : Kn) : PyData.eqv (svF a f) (svF a2 f2) = (decide (a = a2) && (decide (rowsOf (fun k => (f k).join) (jsOf f) = rowsOf (fun k => (f2 k).join) (jsOf f2)) && decide (spansF (sureL f) = spansF (sureL f2)))) := by
  unfold svF rowsD
  simp only [PyData.eqv, PyData.eqvAll, eqv_rowsD, Bool.and_true]
  rfl
theorem SvAt.kt {K : PySem.W.Frag} {H H' : Hp} {t : Addr} {a : Int} {r s : List (Int × Int)} (h : SvAt K H t a r s) (k : Kt H H') : SvAt K H' t a r s := by
  obtain ⟨pT, pS, h1, h2, h3⟩ := h
  exact ⟨pT, pS, k.t h1, k.tp h2, k.tp h3⟩
theorem sure_in (f : Kn) : spansIn (spansF (sureL f)) := fun r mr => by
  obtain ⟨s1, s2⟩ := spans_in (sureL f)
  have bd : ∀ k ∈ sureL f, 0 ≤ k ∧ k < 1000 := fun k m => by
    obtain ⟨n, hn, rfl⟩ := List.mem_map.mp m
    have := List.mem_range.mp (List.mem_filter.mp hn).1
    omega
  have lt := s1 r mr
  have h1 := bd r.1 ((s2 r.1).mp ⟨r, mr, by omega, by omega⟩)
  have h2 := bd (r.2 - 1) ((s2 (r.2 - 1)).mp ⟨r, mr, by omega, by omega⟩)
  exact ⟨h1.1, by omega, by omega⟩
theorem js_few (f : Kn) : (jsOf f).length ≤ 1000 := by
  unfold jsOf
  rw [List.length_map]
  refine Nat.le_trans (List.length_filter_le _ _) ?_
  rw [List.length_range]
  exact Nat.le_refl _
theorem rows_few (f : Kn) : (rowsOf (fun k => (f k).join) (jsOf f)).length ≤ 5000 := by
  unfold rowsOf
  rw [List.length_map]
  have := js_few f
  omega
/-- a taker made of what was saved -/
theorem new_of {K : PySem.W.Frag} {C Cp : Addr} {H : Hp} {life a2 : Int} {sv : V} {rws sp : List (Int × Int)} {E : XK} {Q : Addr → Hp → Prop} (hd : Dp K H sv (.tuple [.int a2, rowsD rws, rowsD sp])) (rl : rws.length ≤ 5000) (hsp : spansIn sp)
    (k : ∀ p Z H', H p = none → Ex H H' → TkM K C Cp H' p ⟨life, a2, learnS (fun _ => none) sp rws, [], [], []⟩ Z → (∀ x, Z x → H x = none) → Q p H') : ∀ p dx : Addr, H p = none → H dx = none → dx ≠ p → spInitM K C Cp [.ref p, .int life, .int 0, sv] (upd (upd H dx (.own p)) p (.ins C dx [])) (fun v H3 => v = .non ∧ Q p H3) E := fun p dx hp hdx dxp => by
  have w1 : Ex H (upd (upd H dx (.own p)) p (.ins C dx [])) := (Ex.new hdx).trans (Ex.new (by rw [upd_ne dxp.symm]; exact hp))
  refine ⟨p, dx, life, 0, sv, rfl, upd_same, .inr ⟨a2, rws, sp, dp_same w1 _ _ hd, rl, hsp, fun Z H' S keep sub => ⟨rfl, k p Z H' hp (fun x u h => keep x u (fun z => by rw [z, hp] at h; cases h) (w1 x u h)) S fun x z => ?_⟩⟩⟩
  rcases sub x z with z | z
  · rw [z]
    exact hp
  · exact fresh_back w1 z
theorem Inv.up {m : TM} {j : Nat} (h : Inv m j) : Inv m (j + 1) := ⟨by have := h.ev; omega, h.sd', h.nu, by have := h.nl; omega, by have := h.pl; omega⟩
def iDx : Option Int → PyData
  | none => .none
  | some i => .int i
theorem dp_iV {K : PySem.W.Frag} {H : Hp} (i : Option Int) : Dp K H (iV i) (iDx i) := by
  cases i with
  | none => exact .non
  | some i => exact .int i
theorem sd_rt (r : Rt) (i : Option Int) : sd 1 (.tuple [.str (rtT r), iDx i]) = true := by
  have h1 : PyData.strOk (rtT r) = true := by cases r <;> decide +kernel
  have h2 : sd 0 (iDx i) = true := by cases i <;> rfl
  show (PyData.strOk (rtT r) && (sd 0 (iDx i) && true)) = true
  rw [h1, h2]
  rfl
theorem ts_nl {m m' : TM} {s : TSt} (po : ∀ x ∈ m.pcs, PcOk x) (hs : stC s) (e : tdo m s = .ok m') : ∀ d ∈ tsD s, nl 3 d = true := by
  cases s with
  | take d =>
    intro x mx
    simp only [tsD, List.mem_cons, List.not_mem_nil, or_false] at mx
    rcases mx with rfl | rfl
    · rfl
    · exact hs.2.2.2
  | ask i a b =>
    intro x mx
    simp only [tsD, List.mem_cons, List.not_mem_nil, or_false] at mx
    rcases mx with rfl | rfl | rfl | rfl <;> rfl
  | answer i d =>
    intro x mx
    simp only [tsD, List.mem_cons, List.not_mem_nil, or_false] at mx
    rcases mx with rfl | rfl | rfl
    · rfl
    · rfl
    · dsimp only [tdo] at e
      split at e
      · cases e
      · rename_i y hy
        split at e
        · cases e
        · split at e
          · rename_i hb
            obtain ⟨rs, rfl, _, _⟩ := rowsB_rs (po y (List.mem_of_find?_eq_some hy)).a hb
            exact nl_up 2 _ (nl_rows rs)
          · cases e
  | give i =>
    intro x mx
    simp only [tsD, List.mem_cons, List.not_mem_nil, or_false] at mx
    rcases mx with rfl | rfl <;> rfl
abbrev mEq : Stmt := inClass sTaker 22
section
variable {P : Program} {w : World} {K : PySem.W.Frag} {mg : Str → Option Value} {base : Heap}
theorem smEq : FnScope ["self", "other"] ["self", "other"] (defScope mEq) := ⟨rfl, rfl, rfl, by decide +kernel, rfl, by decide +kernel, by decide +kernel⟩
set_option maxHeartbeats 1000000 in
theorem ok_eqM {f C Cp fSv : Addr} {fd fdSv : FuncData} {kSv k : Nat} (F : Fun K "__eq__" "Taker.__eq__" mEq f fd) (T : Txt K mg C) (N : Names mg) (kit : KitC K C) (FSv : FnOk P w K mg base CX0 kSv fSv fdSv ["self"] (spSaved K C)) (bSv : Binds K fdSv ["self"] []) (mSv : Meth K C "saved" fSv) (hSv : kSv ≤ k) : FnOk P w K mg base CX0 (k + 1) f fd ["self", "other"] (spEqM K C Cp) := by
  refine F.ok smEq (fun vs H Q E h => ?_) (fun cdv A outer s H vs Q E hr h => ?_)
  · obtain ⟨p, m, X, y, rfl, _⟩ := h
    rfl
  · obtain ⟨p, m, X, y, rfl, S, hc⟩ := h
    refine ⟨_, (pss_one (ps_ret (pe_and (pe_callB call_isi (by rfl) N.isinstance boot_isinstance (pa_cons (pv 1) (pa_cons (pe_glob (v := .ref C) (by rfl) T.mgC rfl) pa_nil))) (pe_one (pe_cmpR (op_eqD hr.units) (pe_meth0 (pv 0) T.cl mSv FSv (hr.mono hSv) bSv .nil pass0) (pe_meth0 (pv 1) T.cl mSv FSv (hr.mono hSv) bSv .nil pass0) (nomark _)))))), ?_⟩
    rcases hc with ⟨p2, m2, X2, rfl, S2, q⟩ | ⟨t, ty, kf, q⟩
    · obtain ⟨dx2, fs2, hp2, hno2⟩ := tk_ob S2 "saved" (by decide +kernel)
      refine ⟨_, rfl, .ref p2, .ref C, .ref C, .ref C, true, rfl, .own C, kit.ins T.cl hp2, kit.own, true, rfl, ?_⟩
      rw [if_pos rfl]
      obtain ⟨dx, fs, hp, hno⟩ := tk_ob S "saved" (by decide +kernel)
      refine ⟨_, rfl, p, dx, fs, rfl, hp, hno, ?_⟩
      try unfold tNil
      dsimp only
      refine w_saved S fun t1 js1 H1 n1 x1 kf1 sv1 => ?_
      have S21 := S2.ex x1
      obtain ⟨dx2, fs2, hp2, hno2⟩ := tk_ob S21 "saved" (by decide +kernel)
      refine ⟨_, rfl, p2, dx2, fs2, rfl, hp2, hno2, ?_⟩
      try unfold tNil
      dsimp only
      refine w_saved S21 fun t2 js2 H2 n2 x2 kf2 sv2 => ?_
      rw [kf1.one (tk_kj S)] at sv1
      rw [kf2.one (tk_kj S2)] at sv2
      have s1 := sd_svF m.at' m.f
      have s2 := sd_svF m2.at' m2.f
      exact ⟨svF m.at' m.f, svF m2.at' m2.f, dp_same x2 _ _ (SvAt.dp sv1), SvAt.dp sv2, sd_sh s1 (by decide), sd_sh s2 (by decide), q _ (x1.trans x2)⟩
    · exact ⟨_, rfl, y, .ref C, t, .ref C, false, rfl, .own C, ty, kf, false, rfl, by rw [if_neg Bool.false_ne_true]; exact q _ (Ex.refl _)⟩
end
section
variable {K : PySem.W.Frag} {C Cp : Addr} {H0 H H' : Hp} {b lk p p2 : Addr} {ks : List Int} {m m' m2 m2' : TM} {X Y : Addr → Prop}
theorem et_eqT {σ : L2.St} {i j : Nat} (kit : KitC K C) (cl : Cls K C) (S1 : TkM K C Cp H p m X) (S2 : TkM K C Cp H p2 m2 Y) (h1 : σ[i]? = some (some (.ref p))) (h2 : σ[j]? = some (some (.ref p2))) : EvT (tTest (tOp (rEqO K C (spEqM K C Cp)) (tVar i) (tVar j))) σ H (PyData.eqv (svF m.at' m.f) (svF m2.at' m2.f)) := fun G x Q q => by
  obtain ⟨dx, fs, hp, _⟩ := tk_ob (S1.ex x) "saved" (by decide +kernel)
  obtain ⟨dx2, fs2, hp2, _⟩ := tk_ob (S2.ex x) "saved" (by decide +kernel)
  exact ⟨.ref p, h1, .ref p2, h2, p, dx, fs, .ref C, rfl, hp, kit.ins cl hp2, kit.nO, p, m, X, .ref p2, rfl, S1.ex x, .inl ⟨p2, m2, Y, rfl, S2.ex x, fun H' x' => ⟨_, rfl, _, rfl, q H' x'⟩⟩⟩
end
/-- what comes of a step, as the taker goes on -/
def stepM (m : TM) (s : TSt) : TM := match tdo m s with
  | .ok m' => m'
  | .no _ _ => m
/-- what is due of it -/
def dueM (m : TM) (s : TSt) : PyData := match tdo m s with
  | .ok _ => .tuple [.str "", .none]
  | .no r i => .tuple [.str (rtT r), iDx i]
/-- steps, what is due of each beside it -/
def dues : TM → List TSt → List PyData
  | _, [] => []
  | m, s :: ss => .tuple [.tuple (tsD s), dueM m s] :: dues (stepM m s) ss
def runM (m : TM) (ss : List TSt) : TM := ss.foldl stepM m
theorem runM_snoc (m : TM) (ss : List TSt) (s : TSt) : runM m (ss ++ [s]) = stepM (runM m ss) s := by
  unfold runM
  rw [List.foldl_append]
  rfl
theorem dues_snoc : ∀ (ss : List TSt) (m : TM) (s : TSt), dues m (ss ++ [s]) = dues m ss ++ [.tuple [.tuple (tsD s), dueM (runM m ss) s]]
  | [], _, _ => rfl
  | t :: ss, m, s => by
    show PyData.tuple [.tuple (tsD t), dueM m t] :: dues (stepM m t) (ss ++ [s]) = _
    rw [dues_snoc ss (stepM m t) s]
    rfl
theorem dues_len : ∀ (ss : List TSt) (m : TM), (dues m ss).length = ss.length
  | [], _ => rfl
  | s :: ss, m => congrArg (· + 1) (dues_len ss _)
theorem dues_at : ∀ (ss : List TSt) (m : TM) (j : Nat) (s : TSt), ss[j]? = some s → (dues m ss)[j]? = some (.tuple [.tuple (tsD s), dueM (runM m (ss.take j)) s])
  | [], _, _, _, h => by cases h
  | t :: ss, m, 0, s, h => by cases h; rfl
  | t :: ss, m, j + 1, s, h => by
    show (dues (stepM m t) ss)[j]? = _
    exact dues_at ss (stepM m t) j s h
/-- a step of which nothing is a list -/
def stN (s : TSt) : Prop := stC s ∧ ∀ d ∈ tsD s, nl 3 d = true
theorem stB.n {ks : List Int} {s : TSt} (h : stB ks s) : stN s := by
  refine ⟨h.c, fun x mx => ?_⟩
  cases s with
  | take d =>
    simp only [tsD, List.mem_cons, List.not_mem_nil, or_false] at mx
    rcases mx with rfl | rfl
    · rfl
    · exact h.2.2.2
  | ask i a b =>
    simp only [tsD, List.mem_cons, List.not_mem_nil, or_false] at mx
    rcases mx with rfl | rfl | rfl | rfl <;> rfl
  | answer i d =>
    obtain ⟨_, _, rs, rfl, _⟩ := h
    simp only [tsD, List.mem_cons, List.not_mem_nil, or_false] at mx
    rcases mx with rfl | rfl | rfl
    · rfl
    · rfl
    · exact nl_up 2 _ (nl_rows rs)
  | give i =>
    simp only [tsD, List.mem_cons, List.not_mem_nil, or_false] at mx
    rcases mx with rfl | rfl <;> rfl
theorem due_nl (m : TM) (s : TSt) : nl 2 (dueM m s) = true := by
  unfold dueM
  cases tdo m s with
  | ok m' => rfl
  | no r i => cases i <;> rfl
theorem dues_nl : ∀ (ss : List TSt) (m : TM), (∀ s ∈ ss, stN s) → ∀ d ∈ dues m ss, nl 5 d = true
  | [], _, _, _, h => by cases h
  | s :: ss, m, hs, d, h => by
    rcases List.mem_cons.mp h with rfl | h
    · have h1 := (hs s List.mem_cons_self).2
      show ((tsD s).all (nl 3) && (nl 4 (dueM m s) && true)) = true
      rw [List.all_eq_true.mpr h1, nl_up 3 _ (nl_up 2 _ (due_nl m s))]
      rfl
    · exact dues_nl ss _ (fun t ht => hs t (List.mem_cons_of_mem _ ht)) d h
theorem Inv.stepM {m : TM} {j : Nat} {s : TSt} (h : Inv m j) (po : ∀ x ∈ m.pcs, PcOk x) (hs : stC s) : Inv (stepM m s) (j + 1) := by
  unfold K27.stepM
  cases e : tdo m s with
  | ok m' => exact h.step po hs e
  | no r i => exact h.up
end K27
namespace K27
open PySem L2 L2H PyProof.Rows Tc Evl
inductive Ix where
  | bag | keys | sav | tks | ows | tls | oth | al
  | tk (i : Nat) | ow (i : Nat) | tl (i : Nat)
  deriving DecidableEq
structure PS where
  sav : Part
  tks : Part
  ows : Part
  tls : Part
  oth : Part
  al : Part
  tk : Nat → Part
  ow : Nat → Part
  tl : Nat → Part
def updN {α : Type _} (f : Nat → α) (i : Nat) (x : α) : Nat → α := fun j => if j = i then x else f j
theorem updN_same {α : Type _} {f : Nat → α} {i : Nat} {x : α} : updN f i x i = x := if_pos rfl
theorem updN_ne {α : Type _} {f : Nat → α} {i j : Nat} {x : α} (h : j ≠ i) : updN f i x j = f j := if_neg h
def pBag (b : Addr) : Part := ⟨fun a => a = b, fun H => Bag H b, fun H H' ⟨x, y, h, r⟩ e _ => ⟨x, y, e b _ rfl h, r⟩, fun H ⟨x, y, h, r⟩ a e => by
  subst e
  exact ⟨_, h, (fun xs z => by cases z), fun o xs z => by cases z⟩⟩
def pKeys (b lk : Addr) (ks : List Int) : Part := ⟨fun a => a = lk, fun H => KeysAt b H lk ks, fun H H' k e _ => ⟨k.ne, e lk _ rfl k.h, k.bd, k.few, k.some⟩, fun H k a e => by
  subst e
  exact ⟨_, k.h, (fun xs z => by cases z), fun o xs z => by cases z⟩⟩
def PS.p (b lk : Addr) (ks : List Int) (q : PS) : Ix → Part
  | .bag => pBag b
  | .keys => pKeys b lk ks
  | .sav => q.sav
  | .tks => q.tks
  | .ows => q.ows
  | .tls => q.tls
  | .oth => q.oth
  | .al => q.al
  | .tk i => q.tk i
  | .ow i => q.ow i
  | .tl i => q.tl i
def PS.zero : PS := ⟨.non, .non, .non, .non, .non, .non, fun _ => .non, fun _ => .non, fun _ => .non⟩
/-- one part put otherwise -/
def PS.put (q : PS) : Ix → Part → PS
  | .bag, _ => q
  | .keys, _ => q
  | .sav, t => { q with sav := t }
  | .tks, t => { q with tks := t }
  | .ows, t => { q with ows := t }
  | .tls, t => { q with tls := t }
  | .oth, t => { q with oth := t }
  | .al, t => { q with al := t }
  | .tk i, t => { q with tk := updN q.tk i t }
  | .ow i, t => { q with ow := updN q.ow i t }
  | .tl i, t => { q with tl := updN q.tl i t }
theorem pset_p {b lk : Addr} {ks : List Int} (q : PS) (i : Ix) (t : Part) (h1 : i ≠ .bag) (h2 : i ≠ .keys) : pset (q.p b lk ks) i t = (q.put i t).p b lk ks := by
  funext j
  by_cases hj : j = i
  · subst hj
    rw [pset_same]
    cases j <;> first | exact absurd rfl h1 | exact absurd rfl h2 | rfl | exact updN_same.symm
  · rw [pset_ne hj]
    cases i <;> first | exact absurd rfl h1 | exact absurd rfl h2 | (cases j <;> first | exact absurd rfl hj | rfl | exact (updN_ne (fun e => hj (by rw [e]))).symm)
section
variable {K : PySem.W.Frag} {C Cp : Addr} {H0 H H' : Hp} {b lk : Addr} {ks : List Int} {q : PS}
abbrev WP (H0 : Hp) (b lk : Addr) (ks : List Int) (q : PS) (H : Hp) : Prop := Wd (fun j => j = Ix.keys) H0 (q.p b lk ks) H
theorem WP.bag (W : WP H0 b lk ks q H) : Bag H b := W.a .bag
theorem WP.ky (W : WP H0 b lk ks q H) : KeysAt b H lk ks := W.a .keys
theorem WP.fr (W : WP H0 b lk ks q H) (f : Tc.Fr b H H') : WP H0 b lk ks q H' ∧ Kt H H' := W.same .bag (by decide) (fun a u n h => f.at h n) f.bag
theorem WP.chg (W : WP H0 b lk ks q H) (i : Ix) (t : Part) (h1 : i ≠ .bag) (h2 : i ≠ .keys) (off : Off (q.p b lk ks i).X H H') (sub : ∀ a, t.X a → (q.p b lk ks i).X a ∨ H a = none) (ht : t.A H') : WP H0 b lk ks (q.put i t) H' ∧ Kt H H' := by
  have r := Wd.chg W i t h2 off sub ht
  rw [pset_p q i t h1 h2] at r
  exact r
/-- a new part, of fresh places -/
theorem WP.new (W : WP H0 b lk ks q H) (i : Ix) (t : Part) (h1 : i ≠ .bag) (h2 : i ≠ .keys) (x : Ex H H') (sub : ∀ a, t.X a → H a = none) (ht : t.A H') : WP H0 b lk ks (q.put i t) H' := (W.chg i t h1 h2 (fun a u _ h => x a u h) (fun a z => .inr (sub a z)) ht).1
/-- .. laid at a list -/
theorem WP.zero (x : Ex H0 H) (hb : H0 b = none) (B : Bag H b) (k : KeysAt b H lk ks) : WP H0 b lk ks PS.zero H := by
  refine ⟨x, fun j => ?_, fun i j hij a hi hj => ?_, fun j a hj => ?_⟩
  · cases j <;> first | exact B | exact k | trivial
  · cases i <;> first | exact hi.elim | (cases j <;> first | exact hj.elim | exact absurd rfl hij | skip)
    · exact k.ne (hj.symm.trans hi)
    · exact k.ne (hi.symm.trans hj)
  · cases j <;> first | exact hj.elim | skip
    · rw [show a = b from hj]
      exact .inl hb
    · exact .inr rfl
/-- what was saved, one for each -/
abbrev Iv : Type := Int × List (Int × Int) × List (Int × Int)
def ivOk (z : Iv) : Prop := (∀ r ∈ z.2.1, r.1 ∈ allK ∧ inSp z.2.2 r.1) ∧ z.2.1.length ≤ 5000 ∧ spansIn z.2.2
def pSav (K : PySem.W.Frag) (a : Addr) (vs : List V) (iv : Nat → Iv) : Part := Part.lst a vs (fun H => ∀ j v, vs[j]? = some v → ∃ sv, v = .ref sv ∧ SvAt K H sv (iv j).1 (iv j).2.1 (iv j).2.2 ∧ ivOk (iv j)) fun H H' h kt j v e => by
  obtain ⟨sv, e1, e2, e3⟩ := h j v e
  exact ⟨sv, e1, e2.kt kt, e3⟩
def pL (a : Addr) (vs : List V) : Part := Part.lst a vs (fun _ => True) fun _ _ _ _ => trivial
def pTk (K : PySem.W.Frag) (C Cp p : Addr) (m : TM) (X : Addr → Prop) : Part := ⟨X, fun H => TkM K C Cp H p m X, fun _ _ h e kt => h.keep e kt, fun _ h => h.noT⟩
def pOw (K : PySem.W.Frag) (o : Addr) (m : TM) (Y : Addr → Prop) : Part := ⟨Y, fun H => OwM K H o m Y, fun _ _ h e kt => h.keep e kt, fun _ h => h.noT⟩
def pTl (K : PySem.W.Frag) (a : Addr) (us : List V) (ds : List PyData) : Part := Part.lst a us (fun H => DpAll K H us ds ∧ ∀ d ∈ ds, nl 5 d = true) fun _ _ h kt => ⟨kt.dps h.2 h.1, h.2⟩
def refs (P : Nat → Addr) (M : Nat) : List V := (List.range M).map fun i => V.ref (P i)
theorem refs_at {P : Nat → Addr} {M i : Nat} (h : i < M) : atI (refs P M) (i : Int) = some (.ref (P i)) := by
  refine atI_nat ?_
  rw [refs, List.getElem?_map, List.getElem?_range h]
  rfl
theorem refs_succ {P : Nat → Addr} {i : Nat} {p : Addr} : refs P i ++ [V.ref p] = refs (updN P i p) (i + 1) := by
  unfold refs
  rw [List.range_succ, List.map_append]
  congr 1
  · refine List.map_congr_left fun j hj => ?_
    rw [updN_ne (by have := List.mem_range.mp hj; omega)]
  · show _ = [V.ref (updN P i p i)]
    rw [updN_same]
/-- what a turn of the law holds -/
structure LV (K : PySem.W.Frag) (C Cp : Addr) (H0 : Hp) (b lk : Addr) (ks : List Int) (M : Nat) (sa ta oa la : Addr) (sv : List V) (iv : Nat → Iv) (P O T : Nat → Addr) (m0 : Nat → TM) (q : PS) (m : Nat → TM) (X Y : Nat → Addr → Prop) (us : Nat → List V) (ss : Nat → List TSt) (H : Hp) : Prop where
  w : WP H0 b lk ks q H
  sav : q.sav = pSav K sa sv iv
  tks : q.tks = pL ta (refs P M)
  ows : q.ows = pL oa (refs O M)
  tls : q.tls = pL la (refs T M)
  tk : ∀ i, i < M → q.tk i = pTk K C Cp (P i) (m i) (X i)
  ow : ∀ i, i < M → q.ow i = pOw K (O i) (m i) (Y i)
  tl : ∀ i, i < M → q.tl i = pTl K (T i) (us i) (dues (m0 i) (ss i))
  mr : ∀ i, i < M → m i = runM (m0 i) (ss i)
  sn : ∀ i, i < M → ∀ s ∈ ss i, stN s
  hv : ∀ i, i < M → ∀ j, j ≤ (ss i).length → Inv (runM (m0 i) ((ss i).take j)) j
end
section
variable {K : PySem.W.Frag} {C Cp : Addr} {H0 H H' : Hp} {b lk : Addr} {ks : List Int} {M : Nat} {sa ta oa la : Addr} {sv : List V} {iv : Nat → Iv} {P O T : Nat → Addr} {m0 : Nat → TM} {q : PS} {m : Nat → TM} {X Y : Nat → Addr → Prop} {us : Nat → List V} {ss : Nat → List TSt} {i : Nat}
theorem LV.ex (S : LV K C Cp H0 b lk ks M sa ta oa la sv iv P O T m0 q m X Y us ss H) (x : Ex H H') : LV K C Cp H0 b lk ks M sa ta oa la sv iv P O T m0 q m X Y us ss H' := ⟨Wd.ex S.w x, S.sav, S.tks, S.ows, S.tls, S.tk, S.ow, S.tl, S.mr, S.sn, S.hv⟩
theorem LV.fr (S : LV K C Cp H0 b lk ks M sa ta oa la sv iv P O T m0 q m X Y us ss H) (f : Tc.Fr b H H') : LV K C Cp H0 b lk ks M sa ta oa la sv iv P O T m0 q m X Y us ss H' := ⟨(S.w.fr f).1, S.sav, S.tks, S.ows, S.tls, S.tk, S.ow, S.tl, S.mr, S.sn, S.hv⟩
theorem wp_tk (w : WP H0 b lk ks q H) (e : q.tk i = pTk K C Cp (P i) (m i) (X i)) : TkM K C Cp H (P i) (m i) (X i) := by
  have := w.a (.tk i)
  rw [show q.p b lk ks (.tk i) = q.tk i from rfl, e] at this
  exact this
theorem wp_ow (w : WP H0 b lk ks q H) (e : q.ow i = pOw K (O i) (m i) (Y i)) : OwM K H (O i) (m i) (Y i) := by
  have := w.a (.ow i)
  rw [show q.p b lk ks (.ow i) = q.ow i from rfl, e] at this
  exact this
theorem wp_tl {a : Addr} {vs : List V} {ds : List PyData} (w : WP H0 b lk ks q H) (e : q.tl i = pTl K a vs ds) : H a = some (.lst vs) ∧ DpAll K H vs ds ∧ ∀ d ∈ ds, nl 5 d = true := by
  have := w.a (.tl i)
  rw [show q.p b lk ks (.tl i) = q.tl i from rfl, e] at this
  exact this
theorem wp_l {a : Addr} {vs : List V} {j : Ix} (w : WP H0 b lk ks q H) (e : q.p b lk ks j = pL a vs) : H a = some (.lst vs) := by
  have := w.a j
  rw [e] at this
  exact this.1
theorem wp_sav {a : Addr} {vs : List V} (w : WP H0 b lk ks q H) (e : q.sav = pSav K a vs iv) : H a = some (.lst vs) ∧ ∀ j v, vs[j]? = some v → ∃ sv, v = .ref sv ∧ SvAt K H sv (iv j).1 (iv j).2.1 (iv j).2.2 ∧ ivOk (iv j) := by
  have := w.a .sav
  rw [show q.p b lk ks .sav = q.sav from rfl, e] at this
  exact this
theorem LV.few (S : LV K C Cp H0 b lk ks M sa ta oa la sv iv P O T m0 q m X Y us ss H) (hi : i < M) (h : (ss i).length ≤ 600) : Inv (m i) (ss i).length ∧ TFew (m i) := by
  have h1 := S.hv i hi _ (Nat.le_refl _)
  rw [List.take_length, ← S.mr i hi] at h1
  exact ⟨h1, h1.few h⟩
/-- a step was told to one of them, and is kept -/
theorem LV.step {s : TSt} {us' : List V} {X' : Addr → Prop} {q' : PS} (S : LV K C Cp H0 b lk ks M sa ta oa la sv iv P O T m0 q m X Y us ss H) (hi : i < M) (w : WP H0 b lk ks q' H') (e1 : q'.sav = q.sav) (e2 : q'.tks = q.tks) (e3 : q'.ows = q.ows) (e4 : q'.tls = q.tls)
    (e5 : ∀ j, j ≠ i → q'.tk j = q.tk j ∧ q'.ow j = q.ow j ∧ q'.tl j = q.tl j) (e6 : q'.tk i = pTk K C Cp (P i) (stepM (m i) s) X') (e7 : q'.ow i = pOw K (O i) (stepM (m i) s) (Y i)) (e8 : q'.tl i = pTl K (T i) us' (dues (m0 i) (ss i) ++ [.tuple [.tuple (tsD s), dueM (m i) s]]))
    (hs : stN s) (po : ∀ x ∈ (m i).pcs, PcOk x) : LV K C Cp H0 b lk ks M sa ta oa la sv iv P O T m0 q' (updN m i (stepM (m i) s)) (updN X i X') Y (updN us i us') (updN ss i (ss i ++ [s])) H' := by
  refine ⟨w, e1.trans S.sav, e2.trans S.tks, e3.trans S.ows, e4.trans S.tls, fun j hj => ?_, fun j hj => ?_, fun j hj => ?_, fun j hj => ?_, fun j hj => ?_, fun j hj => ?_⟩
  all_goals by_cases h : j = i
  · subst h
    rw [updN_same, updN_same]
    exact e6
  · rw [updN_ne h, updN_ne h, (e5 j h).1]
    exact S.tk j hj
  · subst h
    rw [updN_same]
    exact e7
  · rw [updN_ne h, (e5 j h).2.1]
    exact S.ow j hj
  · subst h
    rw [updN_same, updN_same, dues_snoc, ← S.mr j hj]
    exact e8
  · rw [updN_ne h, updN_ne h, (e5 j h).2.2]
    exact S.tl j hj
  · subst h
    rw [updN_same, updN_same, runM_snoc, ← S.mr j hj]
  · rw [updN_ne h, updN_ne h]
    exact S.mr j hj
  · subst h
    rw [updN_same]
    intro t ht
    rcases List.mem_append.mp ht with ht | ht
    · exact S.sn j hj t ht
    · rw [List.mem_singleton.mp ht]
      exact hs
  · rw [updN_ne h]
    exact S.sn j hj
  · subst h
    rw [updN_same]
    intro n hn
    rw [List.length_append, List.length_singleton] at hn
    by_cases hl : n ≤ (ss j).length
    · rw [List.take_append_of_le_length hl]
      exact S.hv j hj n hl
    · obtain rfl : n = (ss j).length + 1 := by omega
      rw [List.take_of_length_le (by rw [List.length_append, List.length_singleton]; exact Nat.le_refl _), runM_snoc, ← S.mr j hj]
      have h1 := S.hv j hj _ (Nat.le_refl _)
      rw [List.take_length, ← S.mr j hj] at h1
      exact h1.stepM po hs.1
  · rw [updN_ne h]
    exact S.hv j hj
end
end K27
namespace K27
open PySem L2 L2H PyProof.Rows Tc Evl
/-- the world as it is built: so many takers, so many kept beside, so many lists of what was told -/
structure Bd (K : PySem.W.Frag) (C Cp : Addr) (H0 : Hp) (b lk : Addr) (ks : List Int) (sa : Addr) (sv : List V) (iv : Nat → Iv) (m0 : Nat → TM) (A1 A2 A3 : Part) (nT nO nL : Nat) (P O T : Nat → Addr) (X Y : Nat → Addr → Prop) (q : PS) (H : Hp) : Prop where
  w : WP H0 b lk ks q H
  sav : q.sav = pSav K sa sv iv
  l1 : q.tks = A1
  l2 : q.ows = A2
  l3 : q.tls = A3
  tk : ∀ j, j < nT → q.tk j = pTk K C Cp (P j) (m0 j) (X j)
  tk0 : ∀ j, nT ≤ j → q.tk j = .non
  ow : ∀ j, j < nO → q.ow j = pOw K (O j) (m0 j) (Y j)
  ow0 : ∀ j, nO ≤ j → q.ow j = .non
  tl : ∀ j, j < nL → q.tl j = pTl K (T j) [] []
  tl0 : ∀ j, nL ≤ j → q.tl j = .non
  oth : q.oth = .non
  al : q.al = .non
section
variable {K : PySem.W.Frag} {C Cp : Addr} {H0 H H' : Hp} {b lk : Addr} {ks : List Int} {sa : Addr} {sv : List V} {iv : Nat → Iv} {m0 : Nat → TM} {A1 A2 A3 : Part} {nT nO nL : Nat} {P O T : Nat → Addr} {X Y : Nat → Addr → Prop} {q : PS}
theorem Bd.ex (B : Bd K C Cp H0 b lk ks sa sv iv m0 A1 A2 A3 nT nO nL P O T X Y q H) (x : Ex H H') : Bd K C Cp H0 b lk ks sa sv iv m0 A1 A2 A3 nT nO nL P O T X Y q H' := ⟨Wd.ex B.w x, B.sav, B.l1, B.l2, B.l3, B.tk, B.tk0, B.ow, B.ow0, B.tl, B.tl0, B.oth, B.al⟩
theorem Bd.tk' {p : Addr} {Z : Addr → Prop} (B : Bd K C Cp H0 b lk ks sa sv iv m0 A1 A2 A3 nT nO nL P O T X Y q H) (x : Ex H H') (S : TkM K C Cp H' p (m0 nT) Z) (nZ : ∀ a, Z a → H a = none) : Bd K C Cp H0 b lk ks sa sv iv m0 A1 A2 A3 ((nT) + 1) nO nL (updN P nT p) O T (updN X nT Z) Y (q.put (.tk nT) (pTk K C Cp p (m0 nT) Z)) H' := by
  refine ⟨B.w.new (.tk nT) _ (by intro e; cases e) (by intro e; cases e) x nZ S, B.sav, B.l1, B.l2, B.l3, ?_, ?_, B.ow, B.ow0, B.tl, B.tl0, B.oth, B.al⟩
  · intro j hj
    show updN q.tk nT _ j = _
    by_cases h : j = nT
    · subst h
      rw [updN_same, updN_same, updN_same]
    · rw [updN_ne h, updN_ne h, updN_ne h]
      exact B.tk j (by omega)
  · intro j hj
    show updN q.tk nT _ j = _
    rw [updN_ne (by omega)]
    exact B.tk0 j (by omega)
theorem Bd.ow' {p : Addr} {Z : Addr → Prop} (B : Bd K C Cp H0 b lk ks sa sv iv m0 A1 A2 A3 nT nO nL P O T X Y q H) (x : Ex H H') (S : OwM K H' p (m0 nO) Z) (nZ : ∀ a, Z a → H a = none) : Bd K C Cp H0 b lk ks sa sv iv m0 A1 A2 A3 nT ((nO) + 1) nL P (updN O nO p) T X (updN Y nO Z) (q.put (.ow nO) (pOw K p (m0 nO) Z)) H' := by
  refine ⟨B.w.new (.ow nO) _ (by intro e; cases e) (by intro e; cases e) x nZ S, B.sav, B.l1, B.l2, B.l3, B.tk, B.tk0, ?_, ?_, B.tl, B.tl0, B.oth, B.al⟩
  · intro j hj
    show updN q.ow nO _ j = _
    by_cases h : j = nO
    · subst h
      rw [updN_same, updN_same, updN_same]
    · rw [updN_ne h, updN_ne h, updN_ne h]
      exact B.ow j (by omega)
  · intro j hj
    show updN q.ow nO _ j = _
    rw [updN_ne (by omega)]
    exact B.ow0 j (by omega)
theorem Bd.tl' {p : Addr} (B : Bd K C Cp H0 b lk ks sa sv iv m0 A1 A2 A3 nT nO nL P O T X Y q H) (x : Ex H H') (S : H' p = some (.lst [])) (nZ : H p = none) : Bd K C Cp H0 b lk ks sa sv iv m0 A1 A2 A3 nT nO ((nL) + 1) P O (updN T nL p) X Y (q.put (.tl nL) (pTl K p [] [])) H' := by
  refine ⟨B.w.new (.tl nL) _ (by intro e; cases e) (by intro e; cases e) x (fun a e => by rw [show a = p from e]; exact nZ) ⟨S, .nil, fun d m => by cases m⟩, B.sav, B.l1, B.l2, B.l3, B.tk, B.tk0, B.ow, B.ow0, ?_, ?_, B.oth, B.al⟩
  · intro j hj
    show updN q.tl nL _ j = _
    by_cases h : j = nL
    · subst h
      rw [updN_same, updN_same]
    · rw [updN_ne h, updN_ne h]
      exact B.tl j (by omega)
  · intro j hj
    show updN q.tl nL _ j = _
    rw [updN_ne (by omega)]
    exact B.tl0 j (by omega)
theorem Bd.new1 {D : Addr} {ws : List V} (B : Bd K C Cp H0 b lk ks sa sv iv m0 A1 A2 A3 nT nO nL P O T X Y q H) (n : H D = none) : Bd K C Cp H0 b lk ks sa sv iv m0 (pL D ws) A2 A3 nT nO nL P O T X Y (q.put .tks (pL D ws)) (upd H D (.lst ws)) :=
  ⟨B.w.new .tks _ (by decide) (by decide) (Ex.new n) (fun a e => by rw [show a = D from e]; exact n) ⟨upd_same, trivial⟩, B.sav, rfl, B.l2, B.l3, B.tk, B.tk0, B.ow, B.ow0, B.tl, B.tl0, B.oth, B.al⟩
theorem Bd.add1 {D : Addr} {vs ws : List V} (B : Bd K C Cp H0 b lk ks sa sv iv m0 (pL D vs) A2 A3 nT nO nL P O T X Y q H) : Bd K C Cp H0 b lk ks sa sv iv m0 (pL D ws) A2 A3 nT nO nL P O T X Y (q.put .tks (pL D ws)) (upd H D (.lst ws)) :=
  ⟨(B.w.chg .tks (pL D ws) (by decide) (by decide) (fun a u z h => by rw [upd_ne (fun e => z (by rw [show q.p b lk ks .tks = q.tks from rfl, B.l1]; exact e))]; exact h) (fun a e => .inl (by rw [show q.p b lk ks .tks = q.tks from rfl, B.l1]; exact e)) ⟨upd_same, trivial⟩).1, B.sav, rfl, B.l2, B.l3, B.tk, B.tk0, B.ow, B.ow0, B.tl, B.tl0, B.oth, B.al⟩
theorem Bd.new2 {D : Addr} {ws : List V} (B : Bd K C Cp H0 b lk ks sa sv iv m0 A1 A2 A3 nT nO nL P O T X Y q H) (n : H D = none) : Bd K C Cp H0 b lk ks sa sv iv m0 A1 (pL D ws) A3 nT nO nL P O T X Y (q.put .ows (pL D ws)) (upd H D (.lst ws)) :=
  ⟨B.w.new .ows _ (by decide) (by decide) (Ex.new n) (fun a e => by rw [show a = D from e]; exact n) ⟨upd_same, trivial⟩, B.sav, B.l1, rfl, B.l3, B.tk, B.tk0, B.ow, B.ow0, B.tl, B.tl0, B.oth, B.al⟩
theorem Bd.add2 {D : Addr} {vs ws : List V} (B : Bd K C Cp H0 b lk ks sa sv iv m0 A1 (pL D vs) A3 nT nO nL P O T X Y q H) : Bd K C Cp H0 b lk ks sa sv iv m0 A1 (pL D ws) A3 nT nO nL P O T X Y (q.put .ows (pL D ws)) (upd H D (.lst ws)) :=
  ⟨(B.w.chg .ows (pL D ws) (by decide) (by decide) (fun a u z h => by rw [upd_ne (fun e => z (by rw [show q.p b lk ks .ows = q.ows from rfl, B.l2]; exact e))]; exact h) (fun a e => .inl (by rw [show q.p b lk ks .ows = q.ows from rfl, B.l2]; exact e)) ⟨upd_same, trivial⟩).1, B.sav, B.l1, rfl, B.l3, B.tk, B.tk0, B.ow, B.ow0, B.tl, B.tl0, B.oth, B.al⟩
theorem Bd.new3 {D : Addr} {ws : List V} (B : Bd K C Cp H0 b lk ks sa sv iv m0 A1 A2 A3 nT nO nL P O T X Y q H) (n : H D = none) : Bd K C Cp H0 b lk ks sa sv iv m0 A1 A2 (pL D ws) nT nO nL P O T X Y (q.put .tls (pL D ws)) (upd H D (.lst ws)) :=
  ⟨B.w.new .tls _ (by decide) (by decide) (Ex.new n) (fun a e => by rw [show a = D from e]; exact n) ⟨upd_same, trivial⟩, B.sav, B.l1, B.l2, rfl, B.tk, B.tk0, B.ow, B.ow0, B.tl, B.tl0, B.oth, B.al⟩
theorem Bd.add3 {D : Addr} {vs ws : List V} (B : Bd K C Cp H0 b lk ks sa sv iv m0 A1 A2 (pL D vs) nT nO nL P O T X Y q H) : Bd K C Cp H0 b lk ks sa sv iv m0 A1 A2 (pL D ws) nT nO nL P O T X Y (q.put .tls (pL D ws)) (upd H D (.lst ws)) :=
  ⟨(B.w.chg .tls (pL D ws) (by decide) (by decide) (fun a u z h => by rw [upd_ne (fun e => z (by rw [show q.p b lk ks .tls = q.tls from rfl, B.l3]; exact e))]; exact h) (fun a e => .inl (by rw [show q.p b lk ks .tls = q.tls from rfl, B.l3]; exact e)) ⟨upd_same, trivial⟩).1, B.sav, B.l1, B.l2, rfl, B.tk, B.tk0, B.ow, B.ow0, B.tl, B.tl0, B.oth, B.al⟩
theorem Bd.lv {M : Nat} {ta oa la : Addr} (B : Bd K C Cp H0 b lk ks sa sv iv m0 (pL ta (refs P M)) (pL oa (refs O M)) (pL la (refs T M)) M M M P O T X Y q H) (h0 : ∀ i, i < M → Inv (m0 i) 0) : LV K C Cp H0 b lk ks M sa ta oa la sv iv P O T m0 q m0 X Y (fun _ => []) (fun _ => []) H :=
  ⟨B.w, B.sav, B.l1, B.l2, B.l3, B.tk, B.ow, B.tl, fun _ _ => rfl, (fun _ _ s m => by cases m), fun i hi j hj => by
    obtain rfl : j = 0 := by simpa using hj
    exact h0 i hi⟩
end
/-- the numbers asked for, rising -/
def AskJ (m : TM) (js : List Int) : Prop := js.Perm (m.pcs.map (·.num)) ∧ js.Pairwise (· < ·)
theorem AskJ.one {m : TM} {js ks : List Int} (h : AskJ m js) (g : AskJ m ks) : js = ks := (h.1.trans g.1.symm).eq_of_pairwise (fun a b _ _ x y => by omega) h.2 g.2
section
variable {K : PySem.W.Frag} {C Cp : Addr} {H : Hp} {p p2 : Addr} {m m2 : TM} {X Y : Addr → Prop} {σ : L2.St} {te te2 : TE} {E1 : XK}
theorem eEv_on (S : TkM K C Cp H p m X) (h : Ev te σ H (.ref p)) : EvD K (tMeth C "events" (spEvents K C) [] E1 te tNil) σ H (.list m.ev) := fun G x Q q => h G x _ fun G1 x1 => by
  have S1 := (S.ex x).ex x1
  obtain ⟨dx, fs, hp, hno⟩ := tk_ob S1 "events" (by decide +kernel)
  refine ⟨p, dx, fs, rfl, hp, hno, ?_⟩
  try unfold tNil
  dsimp only
  refine w_events S1 fun t2 us2 H2 n2 x2 h2 d2 => ?_
  exact q _ _ (x1.trans x2) (.lst (sq_of h2) d2)
theorem eAd_on {js : List Int} (S : TkM K C Cp H p m X) (few : m.pcs.length ≤ 10000) (hj : AskJ m js) (h : Ev te σ H (.ref p)) : EvD K (tMeth C "asked" (spAskedM K C Cp) [] E1 te tNil) σ H (.list (js.map (askD m))) := fun G x Q q => h G x _ fun G1 x1 => by
  have S1 := (S.ex x).ex x1
  obtain ⟨dx, fs, hp, hno⟩ := tk_ob S1 "asked" (by decide +kernel)
  refine ⟨p, dx, fs, rfl, hp, hno, ?_⟩
  try unfold tNil
  dsimp only
  refine ⟨p, m, X, rfl, S1, few, fun t us js2 H1 nt x2 ht pm up dA => ?_⟩
  obtain rfl := AskJ.one hj ⟨pm, up⟩
  exact q _ _ (x1.trans x2) (.lst (sq_of ht) dA)
theorem et_eqP (kit : KitC K C) (cl : Cls K C) (S1 : TkM K C Cp H p m X) (S2 : TkM K C Cp H p2 m2 Y) (h1 : Ev te σ H (.ref p)) (h2 : Ev te2 σ H (.ref p2)) : EvT (tTest (tOp (rEqO K C (spEqM K C Cp)) te te2)) σ H (PyData.eqv (svF m.at' m.f) (svF m2.at' m2.f)) := fun G x Q q => by
  refine h1 G x _ fun G1 x1 => h2 G1 (x.trans x1) _ fun G2 x2 => ?_
  have xx := (x.trans x1).trans x2
  obtain ⟨dx, fs, hp, _⟩ := tk_ob (S1.ex xx) "saved" (by decide +kernel)
  obtain ⟨dx2, fs2, hp2, _⟩ := tk_ob (S2.ex xx) "saved" (by decide +kernel)
  exact ⟨p, dx, fs, .ref C, rfl, hp, kit.ins cl hp2, kit.nO, p, m, X, .ref p2, rfl, S1.ex xx, .inl ⟨p2, m2, Y, rfl, S2.ex xx, fun H' x' => ⟨_, rfl, _, rfl, q H' ((x1.trans x2).trans x')⟩⟩⟩
end
end K27
namespace K27
open PySem L2 L2H PyProof.Rows Tc Evl
section
variable {K : PySem.W.Frag} {C Cp : Addr} {H0 H H' : Hp} {b lk : Addr} {ks : List Int} {M : Nat} {sa ta oa la : Addr} {sv : List V} {iv : Nat → Iv} {P O T : Nat → Addr} {m0 : Nat → TM} {q : PS} {m : Nat → TM} {X Y : Nat → Addr → Prop} {us : Nat → List V} {ss : Nat → List TSt} {i : Nat} {s : TSt} {m' : TM}
theorem wp_own (w : WP H0 b lk ks q H) (e : q.ow i = pOw K (O i) (m i) (Y i)) (h : OOut K H (O i) (Y i) m' H') : WP H0 b lk ks (q.put (.ow i) (pOw K (O i) m' (Y i))) H' ∧ Kt H H' :=
  w.chg (.ow i) (pOw K (O i) m' (Y i)) (by intro z; cases z) (by intro z; cases z) (fun a u n k => h.2 a u (fun z => n (by rw [show q.p b lk ks (.ow i) = q.ow i from rfl, e]; exact z)) k) (fun a z => .inl (by rw [show q.p b lk ks (.ow i) = q.ow i from rfl, e]; exact z)) h.1
theorem wp_tak {j : Ix} {p : Addr} {mm : TM} {Z : Addr → Prop} (j1 : j ≠ .bag) (j2 : j ≠ .keys) (w : WP H0 b lk ks q H) (e : q.p b lk ks j = pTk K C Cp p mm Z) (h : TOut K C Cp H p Z m' H') : ∃ Z', WP H0 b lk ks (q.put j (pTk K C Cp p m' Z')) H' ∧ Kt H H' := by
  obtain ⟨Z', S', off, sub⟩ := h
  exact ⟨Z', w.chg j (pTk K C Cp p m' Z') j1 j2 (fun a u n k => off a u (fun z => n (by rw [e]; exact z)) k) (fun a z => (sub a z).imp (fun y => by rw [e]; exact y) id) S'⟩
theorem wp_app {a : Addr} {vs : List V} {ds : List PyData} {v : V} {d : PyData} (w : WP H0 b lk ks q H) (e : q.tl i = pTl K a vs ds) (hv : Dp K H v d) (hn : nl 5 d = true) : WP H0 b lk ks (q.put (.tl i) (pTl K a (vs ++ [v]) (ds ++ [d]))) (upd H a (.lst (vs ++ [v]))) ∧ Kt H (upd H a (.lst (vs ++ [v]))) := by
  obtain ⟨h1, h2, h3⟩ := wp_tl w e
  have kt := kt_put (ws := vs ++ [v]) h1
  refine w.chg (.tl i) _ (by intro z; cases z) (by intro z; cases z) (fun x u n k => by rw [upd_ne (fun z => n (by rw [show q.p b lk ks (.tl i) = q.tl i from rfl, e]; exact z))]; exact k) (fun x z => .inl (by rw [show q.p b lk ks (.tl i) = q.tl i from rfl, e]; exact z)) ⟨upd_same, dps_app (kt.dps h3 h2) (.cons (kt.dp 5 _ _ hn hv) .nil), fun d' m' => ?_⟩
  rcases List.mem_append.mp m' with m' | m'
  · exact h3 d' m'
  · rw [List.mem_singleton.mp m']
    exact hn
theorem two_nl (hs : stN s) (mm : TM) : nl 5 (.tuple [.tuple (tsD s), dueM mm s]) = true := by
  show ((tsD s).all (nl 3) && (nl 4 (dueM mm s) && true)) = true
  rw [List.all_eq_true.mpr hs.2, nl_up 3 _ (nl_up 2 _ (due_nl mm s))]
  rfl
theorem due_ok {mm : TM} (e : tdo mm s = .ok m') : dueM mm s = .tuple [.str "", .none] := by
  unfold dueM
  rw [e]
theorem due_no {mm : TM} {r : Rt} {z : Option Int} (e : tdo mm s = .no r z) : dueM mm s = .tuple [.str (rtT r), iDx z] := by
  unfold dueM
  rw [e]
theorem LV.po (S : LV K C Cp H0 b lk ks M sa ta oa la sv iv P O T m0 q m X Y us ss H) (hi : i < M) : (∀ x ∈ (m i).pcs, PcOk x) ∧ ∀ x ∈ (m i).pcs, 0 ≤ x.num ∧ x.num < 8 := by
  have h1 := S.hv i hi _ (Nat.le_refl _)
  rw [List.take_length, ← S.mr i hi] at h1
  obtain ⟨rd, kn', pc, ev, ot, rkv, kkv, l, ov, B, fx⟩ := wp_ow S.w (S.ow i hi)
  exact ⟨B.po, fun x mx => h1.nu _ (B.pn x mx)⟩
theorem LV.okS {us' : List V} {X' : Addr → Prop} (S : LV K C Cp H0 b lk ks M sa ta oa la sv iv P O T m0 q m X Y us ss H) (hi : i < M) (hs : stN s) (e : tdo (m i) s = .ok m') (w : WP H0 b lk ks (((q.put (.ow i) (pOw K (O i) m' (Y i))).put (.tl i) (pTl K (T i) us' (dues (m0 i) (ss i) ++ [.tuple [.tuple (tsD s), dueM (m i) s]]))).put (.tk i) (pTk K C Cp (P i) m' X')) H') : LV K C Cp H0 b lk ks M sa ta oa la sv iv P O T m0 (((q.put (.ow i) (pOw K (O i) m' (Y i))).put (.tl i) (pTl K (T i) us' (dues (m0 i) (ss i) ++ [.tuple [.tuple (tsD s), dueM (m i) s]]))).put (.tk i) (pTk K C Cp (P i) m' X')) (updN m i (stepM (m i) s)) (updN X i X') Y (updN us i us') (updN ss i (ss i ++ [s])) H' := by
  have e2 : stepM (m i) s = m' := by
    unfold stepM
    rw [e]
  refine S.step hi w rfl rfl rfl rfl (fun j hj => ⟨updN_ne hj, updN_ne hj, updN_ne hj⟩) ?_ ?_ updN_same hs (S.po hi).1
  · rw [e2]
    exact updN_same
  · rw [e2]
    exact updN_same
theorem LV.noS {us' : List V} {r : Rt} {z : Option Int} (S : LV K C Cp H0 b lk ks M sa ta oa la sv iv P O T m0 q m X Y us ss H) (hi : i < M) (hs : stN s) (e : tdo (m i) s = .no r z) (w : WP H0 b lk ks (q.put (.tl i) (pTl K (T i) us' (dues (m0 i) (ss i) ++ [.tuple [.tuple (tsD s), dueM (m i) s]]))) H') : LV K C Cp H0 b lk ks M sa ta oa la sv iv P O T m0 (q.put (.tl i) (pTl K (T i) us' (dues (m0 i) (ss i) ++ [.tuple [.tuple (tsD s), dueM (m i) s]]))) (updN m i (stepM (m i) s)) (updN X i (X i)) Y (updN us i us') (updN ss i (ss i ++ [s])) H' := by
  have e2 : stepM (m i) s = m i := by
    unfold stepM
    rw [e]
  refine S.step hi w rfl rfl rfl rfl (fun j hj => ⟨rfl, rfl, updN_ne hj⟩) ?_ ?_ updN_same hs (S.po hi).1
  · rw [e2]
    exact S.tk i hi
  · rw [e2]
    exact S.ow i hi
theorem LV.put {j : Ix} {t : Part} (S : LV K C Cp H0 b lk ks M sa ta oa la sv iv P O T m0 q m X Y us ss H) (hj : j = .al ∨ j = .oth) (w : WP H0 b lk ks (q.put j t) H') : LV K C Cp H0 b lk ks M sa ta oa la sv iv P O T m0 (q.put j t) m X Y us ss H' := by
  rcases hj with rfl | rfl <;> exact ⟨w, S.sav, S.tks, S.ows, S.tls, S.tk, S.ow, S.tl, S.mr, S.sn, S.hv⟩
/-- takers[at] -/
theorem ev_at {σ : L2.St} {x y : Nat} {a : Addr} {Pf : Nat → Addr} (h : H a = some (.lst (refs Pf M))) (hi : i < M) (hx : σ[x]? = some (some (.ref a))) (hy : σ[y]? = some (some (.int (i : Int)))) : Ev (tOp (rIxL K) (tVar x) (tVar y)) σ H (.ref (Pf i)) := fun G e Q k =>
  ⟨.ref a, hx, .int (i : Int), hy, a, _, _, _, rfl, rfl, sq_of (e _ _ h), refs_at hi, k G (Ex.refl G)⟩
theorem et_neAd {p p2 : Addr} {mm : TM} {Z Z2 : Addr → Prop} {σ : L2.St} {te te2 : TE} {E1 E2 : XK} (S1 : TkM K C Cp H p mm Z) (S2 : TkM K C Cp H p2 mm Z2) (few : mm.pcs.length ≤ 10000) (h1 : Ev te σ H (.ref p)) (h2 : Ev te2 σ H (.ref p2)) : EvT (tTest (tOp (rNeD K) (tMeth C "asked" (spAskedM K C Cp) [] E1 te tNil) (tMeth C "asked" (spAskedM K C Cp) [] E2 te2 tNil))) σ H false := fun G x Q k => h1 G x _ fun G1 x1 => by
  have T1 := (S1.ex x).ex x1
  obtain ⟨dx, fs, hp, hno⟩ := tk_ob T1 "asked" (by decide +kernel)
  refine ⟨p, dx, fs, rfl, hp, hno, ?_⟩
  try unfold tNil
  dsimp only
  refine ⟨p, mm, Z, rfl, T1, few, fun t us js G2 nt x2 ht pm up dA => ?_⟩
  refine h2 G2 ((x.trans x1).trans x2) _ fun G3 x3 => ?_
  have T2 := S2.ex (((x.trans x1).trans x2).trans x3)
  obtain ⟨dx, fs, hp, hno⟩ := tk_ob T2 "asked" (by decide +kernel)
  refine ⟨p2, dx, fs, rfl, hp, hno, ?_⟩
  try unfold tNil
  dsimp only
  refine ⟨p2, mm, Z2, rfl, T2, few, fun t2 us2 js2 G4 nt2 x4 ht2 pm2 up2 dA2 => ?_⟩
  obtain rfl := AskJ.one (m := mm) ⟨pm, up⟩ ⟨pm2, up2⟩
  refine ne_raw (n := 4) (d := .list (js.map (askD mm))) (dp_same (x3.trans x4) _ _ (.lst (sq_of ht) dA)) (.lst (sq_of ht2) dA2) (sd_askL mm js) (by decide) ⟨_, rfl, k _ (((x1.trans x2).trans x3).trans x4)⟩
end
end K27
namespace K27
open PySem L2 L2H PyProof.Rows Tc Evl
abbrev sLaw : Stmt := topS 72
theorem scLaw : FnScope ["script", "k", "bag", "keys", "many", "at", "sav1", "takers", "owns", "told", "turn", "step", "other", "due", "alone"] ["script"] (defScope sLaw) := ⟨rfl, rfl, rfl, by decide +kernel, rfl, by decide +kernel, by decide +kernel⟩
def spLaw (K : PySem.W.Frag) : Sp := fun vs H Q _ => ∃ (a : Addr) (ns : List Int), vs = [.ref a] ∧ SqL K H a (ns.map V.int) ∧ ns.length ≤ 63 ∧ ∀ H', Q (.bl true) H'
theorem ev_min2 {σ : L2.St} {H : Hp} {ta tb : TE} {i j : Int} (ha : Ev ta σ H (.int i)) (hb : Ev tb σ H (.int j)) : Ev (tCB (fun xs H Q => ∃ i j, xs = [.int i, .int j] ∧ Q (.int (if j < i then j else i)) H) (tCons ta (tCons tb tNil))) σ H (.int (if j < i then j else i)) :=
  ev_cb (ea_cons ha (ea_cons hb ea_nil)) fun H1 _ _ q => ⟨i, j, rfl, q H1 (Ex.refl H1)⟩
section
variable {P : Program} {w : World} {K : PySem.W.Frag} {mg : Str → Option Value} {base : Heap}
set_option maxHeartbeats 8000000 in
theorem ok_law {f C Cp fAd fEv fEq fI : Addr} {fd fdAd fdEv fdEq fdI : FuncData} {kB kT kKs kSv kTn kSp kDu kTr kTs kAd kEv kEq kI k : Nat} {gI : List Value → List Value → List Value} (F : Fun K "law" "law" sLaw f fd) (T : Txt K mg C) (N : Names mg) (kit : KitC K C) (mkT : Mk K C fI) (FI : FnOk P w K mg base CX0 kI fI fdI ["self", "life", "place", "saved"] (spInitM K C Cp)) (hI : kI + 1 ≤ k) (bI : KBn K fdI ["self", "life", "place", "saved"] 2 ["saved"] gI (fun vs zs => vs ++ [.int 0] ++ zs))
    (FAd : FnOk P w K mg base CX0 kAd fAd fdAd ["self"] (spAskedM K C Cp)) (bAd : Binds K fdAd ["self"] []) (mAd : Meth K C "asked" fAd) (hAd : kAd ≤ k) (FEv : FnOk P w K mg base CX0 kEv fEv fdEv ["self"] (spEvents K C)) (bEv : Binds K fdEv ["self"] []) (mEv : Meth K C "events" fEv) (hEv : kEv ≤ k) (FEq : FnOk P w K mg base CX0 kEq fEq fdEq ["self", "other"] (spEqM K C Cp)) (bEq : Binds K fdEq ["self", "other"] []) (mEqm : Meth K C "__eq__" fEq) (hEq : kEq ≤ k)
    (dB : Own P w K mg base "_law_bag" ["script", "k"] kB (spBag K)) (hB : kB ≤ k) (dT : Own P w K mg base "_law_take" ["bag", "many"] kT spTake) (hT : kT ≤ k) (dKs : Own P w K mg base "_law_keys" ["bag"] kKs spKeysR) (hKs : kKs ≤ k) (dSv : Own P w K mg base "_law_saved" ["bag", "keys"] kSv (spSv K)) (hSv : kSv ≤ k) (dTn : Own P w K mg base "_law_taker_new" ["life", "sav1"] kTn (spTn K)) (hTn : kTn ≤ k) (dSp : Own P w K mg base "_law_taker_step" ["bag", "own", "keys"] kSp (spStp K)) (hSp : kSp ≤ k) (dDu : Own P w K mg base "_law_taker_due" ["own", "step"] kDu (spDu K)) (hDu : kDu ≤ k) (dTr : Own P w K mg base "_law_taker_tried" ["taker", "step"] kTr (spTtr K C Cp)) (hTr : kTr ≤ k) (dTs : Own P w K mg base "_law_taker_so" ["taker", "own"] kTs (spTs K C Cp)) (hTs : kTs ≤ k) : FnOk P w K mg base CX0 (k + 1) f fd ["script"] (spLaw K) := by
  refine F.ok scLaw (fun vs H Q E h => ?_) (fun cdv A outer s H vs Q E hr h => ?_)
  · obtain ⟨a, ns, rfl, _⟩ := h
    rfl
  · obtain ⟨a, ns, rfl, hA, hn, q⟩ := h
    refine ⟨_, (pss_cons (ps_for PassesOwn.never rfl (pi_range1 rfl N.range (pa_cons (pe_op op_add pe_int (pe_callB (call_min2 rfl) (by rfl) N.min boot_min (pa_cons (pe_callB call_len_seq (by rfl) N.len PySem.boot_len (pa_cons (pv 0) pa_nil)) (pa_cons pe_int pa_nil)))) pa_nil)) (pg_name (i := 1) scLaw.nd rfl (.inl rfl)) (pss_cons (ps_set (i := 2) scLaw.nd rfl (.inr rfl) (pe_own dB hr hB (by rfl) (pa_cons (pv 0) (pa_cons (pv 1) pa_nil))))
      (pss_cons (ps_set (i := 3) scLaw.nd rfl (.inr rfl) (pe_own dKs hr hKs (by rfl) (pa_cons (pv 2) pa_nil)))
      (pss_cons (ps_set (i := 4) scLaw.nd rfl (.inl rfl) (pe_op op_add pe_int (pe_own dT hr hT (by rfl) (pa_cons (pv 2) (pa_cons pe_int pa_nil)))))
      (pss_cons (ps_set (i := 6) scLaw.nd rfl (.inr rfl) (pe_lc (own := [("at", 5)]) (g := gName 5) (tt := tYes) (te := tOp (rIxL K) _ _) rfl scLaw.nd (pi_range1 rfl N.range (pa_cons (pv 4) pa_nil)) (blkOk_by (N := ["script", "k", "bag", "keys", "many", "at", "sav1", "takers", "owns", "told", "turn", "step", "other", "due", "alone"]) (sc := defScope sLaw) (by decide +kernel)) (fun _ _ _ _ _ => pg_name (i := 5) scLaw.nd rfl (Or.inl rfl)) (fun _ _ _ _ _ => pts_nil) (fun _ _ _ _ _ => (pe_ix ix_list (pe_lst (pa_cons (pe_tup (pa_cons pe_int (pa_cons (pe_tupF pa_nil) (pa_cons (pe_tupF pa_nil) pa_nil)))) (pa_cons (pe_own dSv hr hSv (by rfl) (pa_cons (pv 2) (pa_cons (pv 3) pa_nil))) pa_nil))) (pe_own dT hr hT (by rfl) (pa_cons (pv 2) (pa_cons pe_int pa_nil))) (fun _ _ => rfl)))))
      (pss_cons (ps_setLc (i := 7) (own := [("at", 5)]) (g := gName 5) (tt := tYes) (te := tMakeK C _ _ (spInitM K C Cp) _ _ (tCons _ tNil) (tCons (tOp (rIxL K) (tVar 6) (tVar 5)) tNil)) rfl scLaw.nd rfl rfl (sw_true rfl rfl rfl (by decide +kernel)) (pi_range1 rfl N.range (pa_cons (pv 4) pa_nil)) (blkOk_by (N := ["script", "k", "bag", "keys", "many", "at", "sav1", "takers", "owns", "told", "turn", "step", "other", "due", "alone"]) (sc := defScope sLaw) (by decide +kernel)) (fun _ _ _ _ _ => (pg_name (i := 5) scLaw.nd rfl (.inl rfl))) (fun _ _ _ _ _ => pts_nil) (fun _ _ _ _ _ => (pe_makeK mkT FI (hr.mono hI) (by rfl) T.mgC bI pass0 (pa_cons (pe_op op_add (pv 5) pe_int) pa_nil) (pk_cons (pe_ix ix_list (pv 6) (pv 5) (fun _ _ => rfl)) pk_nil))))
      (pss_cons (ps_setLc (i := 8) (own := [("at", 5)]) (g := gName 5) (tt := tYes) (te := tCall (spTn K) [] _ (tCons _ (tCons (tOp (rIxL K) (tVar 6) (tVar 5)) tNil))) rfl scLaw.nd rfl rfl (sw_true rfl rfl rfl (by decide +kernel)) (pi_range1 rfl N.range (pa_cons (pv 4) pa_nil)) (blkOk_by (N := ["script", "k", "bag", "keys", "many", "at", "sav1", "takers", "owns", "told", "turn", "step", "other", "due", "alone"]) (sc := defScope sLaw) (by decide +kernel)) (fun _ _ _ _ _ => (pg_name (i := 5) scLaw.nd rfl (.inl rfl))) (fun _ _ _ _ _ => pts_nil) (fun _ _ _ _ _ => (pe_own dTn hr hTn (by rfl) (pa_cons (pe_op op_add (pv 5) pe_int) (pa_cons (pe_ix ix_list (pv 6) (pv 5) (fun _ _ => rfl)) pa_nil)))))
      (pss_cons (ps_setLc (i := 9) (own := [("at", 5)]) (g := gName 5) (tt := tYes) (te := tLst tNil) rfl scLaw.nd rfl rfl (sw_true rfl rfl rfl (by decide +kernel)) (pi_range1 rfl N.range (pa_cons (pv 4) pa_nil)) (blkOk_by (N := ["script", "k", "bag", "keys", "many", "at", "sav1", "takers", "owns", "told", "turn", "step", "other", "due", "alone"]) (sc := defScope sLaw) (by decide +kernel)) (fun _ _ _ _ _ => (pg_name (i := 5) scLaw.nd rfl (.inl rfl))) (fun _ _ _ _ _ => pts_nil) (fun _ _ _ _ _ => (pe_lst pa_nil)))
      (pss_cons (ps_for PassesOwn.never rfl (pi_range1 rfl N.range (pa_cons (pe_op op_add pe_int (pe_own dT hr hT (by rfl) (pa_cons (pv 2) (pa_cons pe_int pa_nil)))) pa_nil)) (pg_name (i := 10) scLaw.nd rfl (.inl rfl)) (pss_cons (ps_set (i := 5) scLaw.nd rfl (.inr rfl) (pe_own dT hr hT (by rfl) (pa_cons (pv 2) (pa_cons (pv 4) pa_nil))))
      (pss_cons (ps_set (i := 11) scLaw.nd rfl (.inr rfl) (pe_own dSp hr hSp (by rfl) (pa_cons (pv 2) (pa_cons (pe_ix ix_list (pv 8) (pv 5) (fun _ _ => rfl)) (pa_cons (pv 3) pa_nil)))))
      (pss_one (ps_for PassesOwn.never rfl (pi_list (pe_lc (own := [("other", 12)]) (g := gName 12) (tt := tOr (tTest (tOp rEq (tVar 12) (tVar 5))) (tTest (tOp rEq (tOp (rIxT K) (tVar 11) (tC (.int 0))) (tC (.str "answer"))))) (te := tVar 12) rfl scLaw.nd (pi_range1 rfl N.range (pa_cons (pv 4) pa_nil)) (blkOk_by (N := ["script", "k", "bag", "keys", "many", "at", "sav1", "takers", "owns", "told", "turn", "step", "other", "due", "alone"]) (sc := defScope sLaw) (by decide +kernel)) (fun _ _ _ _ _ => pg_name (i := 12) scLaw.nd rfl (Or.inl rfl)) (fun _ _ _ _ _ => (pts_one (PW.pt (pw_or (pt_cmpR op_eq (pv 12) (pv 5) (nomark _)) (pw_or1 (pt_cmpR op_eq (pe_ix ix_tup (pv 11) pe_int (fun _ _ => rfl)) pe_str (nomark _))))))) (fun _ _ _ _ _ => (pv 12)))) (pg_name (i := 12) scLaw.nd rfl (.inl rfl)) (pss_cons (ps_set (i := 13) scLaw.nd rfl (.inl rfl) (pe_own dDu hr hDu (by rfl) (pa_cons (pe_ix ix_list (pv 8) (pv 12) (fun _ _ => rfl)) (pa_cons (pv 11) pa_nil))))
      (pss_cons (ps_expr (pe_bm PySem.F.plainAttrs_list PySem.F.slot_list_append PySem.F.type_list_append mt_append (pe_ix ix_list (pv 9) (pv 12) (fun _ _ => rfl)) (pa_cons (pe_tup (pa_cons (pv 11) (pa_cons (pv 13) pa_nil))) pa_nil)))
      (pss_one (ps_if (pt_cmpR (op_neD hr.units) (pe_own dTr hr hTr (by rfl) (pa_cons (pe_ix ix_list (pv 7) (pv 12) (fun _ _ => rfl)) (pa_cons (pv 11) pa_nil))) (pv 13) (nomark _)) (pss_one (ps_ret pe_bl)) pss_nil)))))))))
      (pss_one (ps_for PassesOwn.never rfl (pi_range1 rfl N.range (pa_cons (pv 4) pa_nil)) (pg_name (i := 5) scLaw.nd rfl (.inr rfl)) (pss_cons (ps_set (i := 14) scLaw.nd rfl (.inl rfl) (pe_makeK mkT FI (hr.mono hI) (by rfl) T.mgC bI pass0 (pa_cons (pe_op op_add (pv 5) pe_int) pa_nil) (pk_cons (pe_ix ix_list (pv 6) (pv 5) (fun _ _ => rfl)) pk_nil)))
      (pss_cons (ps_for PassesOwn.never rfl (pi_list (pe_ix ix_list (pv 9) (pv 5) (fun _ _ => rfl))) (pg_tup rfl (pgs_cons (pg_name (i := 11) scLaw.nd rfl (.inr rfl)) (pgs_cons (pg_name (i := 13) scLaw.nd rfl (.inl rfl)) pgs_nil))) (pss_one (ps_if (pt_cmpR (op_neD hr.units) (pe_own dTr hr hTr (by rfl) (pa_cons (pv 14) (pa_cons (pv 11) pa_nil))) (pv 13) (nomark _)) (pss_one (ps_ret pe_bl)) pss_nil)))
      (pss_cons (ps_if (PW.pt (pw_or (pt_not (pt_cmpR (op_eqO (hr.mono hEq) mEqm FEq bEq) (pv 14) (pe_ix ix_list (pv 7) (pv 5) (fun _ _ => rfl)) (nomark _))) (pw_or (pt_cmpR (op_neD hr.units) (pe_meth0 (pv 14) T.cl mEv FEv (hr.mono hEv) bEv .nil pass0) (pe_meth0 (pe_ix ix_list (pv 7) (pv 5) (fun _ _ => rfl)) T.cl mEv FEv (hr.mono hEv) bEv .nil pass0) (nomark _)) (pw_or1 (pt_cmpR (op_neD hr.units) (pe_meth0 (pv 14) T.cl mAd FAd (hr.mono hAd) bAd .nil pass0) (pe_meth0 (pe_ix ix_list (pv 7) (pv 5) (fun _ _ => rfl)) T.cl mAd FAd (hr.mono hAd) bAd .nil pass0) (nomark _)))))) (pss_one (ps_ret pe_bl)) pss_nil)
      (pss_one (ps_if (pt_not (pt_val (pe_own dTs hr hTs (by rfl) (pa_cons (pe_ix ix_list (pv 7) (pv 5) (fun _ _ => rfl)) (pa_cons (pe_ix ix_list (pv 8) (pv 5) (fun _ _ => rfl)) pa_nil))))) (pss_one (ps_ret pe_bl)) pss_nil))))))))))))))))
      (pss_one (ps_ret pe_bl))), ?_⟩
    have hmn : 0 ≤ 1 + (if (4 : Int) < ((ns.map V.int).length : Int) then (4 : Int) else ((ns.map V.int).length : Int)) ∧ 1 + (if (4 : Int) < ((ns.map V.int).length : Int) then (4 : Int) else ((ns.map V.int).length : Int)) ≤ 100 := by
      split <;> omega
    refine s_seq (s_forR1 (n := 1 + (if (4 : Int) < ((ns.map V.int).length : Int) then (4 : Int) else ((ns.map V.int).length : Int))) (ea_cons (ev_op ev_c (ev_min2 (ev_len (ev_var rfl) hA) ev_c) rv_add) ea_nil) ⟨hmn.1, by omega⟩
      (fun i σ' H' => ∃ y1 y2 y3 y4 y5 y6 y7 y8 y9 y10 y11 y12 y13 y14, σ' = [some (.ref a), y1, y2, y3, y4, y5, y6, y7, y8, y9, y10, y11, y12, y13, y14] ∧ SqL K H' a (ns.map V.int)) (fun H1 x1 => ⟨none, none, none, none, none, none, none, none, none, none, none, none, none, none, rfl, ex_l x1 hA⟩) (fun i σ' H0 hi p => ?_) (fun σ' H' p => ?_))
    · obtain ⟨y1, y2, y3, y4, y5, y6, y7, y8, y9, y10, y11, y12, y13, y14, rfl, hA0⟩ := p
      have hi2 : i ≤ 1000 := by omega
      refine s_seq ⟨.ref a, rfl, .int (i : Int), rfl, a, ns, i, rfl, hA0, hi2, fun b H1 hb x1 hB1 => g_name ?_⟩
      dsimp only
      refine s_seq ⟨.ref b, rfl, b, rfl, hB1, fun lk ks H2 f2 hK2 h64 kpw => g_name ?_⟩
      dsimp only
      refine s_seq (t_asg (take_of (b := b) (m := 2) f2.bag (ea_cons (ev_var rfl) (ea_cons ev_c ea_nil)) (by decide) (by decide) fun lr H3 f3 l0 l2 => ⟨2, lr, rfl, rfl, g_name ?_⟩))
      try dsimp only
      obtain ⟨M, hM⟩ : ∃ M : Nat, 2 + lr = (M : Int) := ⟨(2 + lr).toNat, by omega⟩
      rw [hM]
      have M2 : 2 ≤ M := by omega
      have M3 : M ≤ 3 := by omega
      have hK3 := hK2.fr f3
      have x03 : Ex H0 H3 := fun x u h => f3.at (f2.at (x1 x u h) fun z => by rw [z, hb] at h; cases h) (ne_of_none h hb)
      have W3 : WP H0 b lk ks PS.zero H3 := WP.zero x03 hb f3.bag hK3
      have bdK : ∀ k ∈ ks, k ∈ allK := fun k mk => mem_allK (hK2.bd k mk)
      clear hK3 x03 hB1 f2 f3
      -- what was saved
      refine s_seq (t_asg (lc_mk (n := M) (fun i acc D H' => ∃ iv, WP H0 b lk ks (PS.zero.put .sav (pSav K D acc iv)) H') (by omega) (fun R r => ⟨.int (M : Int), rfl, (M : Int), rfl, by omega, by omega, r⟩) (fun D nD => ⟨fun _ => (0, [], []), W3.new .sav _ (by decide) (by decide) (Ex.new nD) (fun a e => by rw [show a = D from e]; exact nD) ⟨upd_same, fun j v e => by cases e⟩⟩) (fun i2 acc D G hi la hacc p => ⟨rfl, fun R r => ?_⟩) (fun svs sa G0 lsv hacc p => g_name ?_)))
      · obtain ⟨iv, W⟩ := p
        refine ⟨Nat.zero_le _, fun e1 oe1 he1 od1 => ⟨Nat.zero_le _, fun e2 oe2 he2 od2 => ⟨sz_of (by simp), fun sv1 hsv1 => ?_⟩⟩⟩
        have z1 : Ex G (upd G e1 (.frz oe1 (.tup []))) := Ex.new he1
        have g1 : (upd G e1 (.frz oe1 (.tup []))) e1 = some (.frz oe1 (.tup [])) := upd_same
        generalize upd G e1 (.frz oe1 (.tup [])) = H4 at z1 g1 he2 hsv1 ⊢
        have z2 : Ex H4 (upd H4 e2 (.frz oe2 (.tup []))) := Ex.new he2
        have g2 : (upd H4 e2 (.frz oe2 (.tup []))) e2 = some (.frz oe2 (.tup [])) := upd_same
        generalize upd H4 e2 (.frz oe2 (.tup [])) = H5 at z2 g2 hsv1 ⊢
        have z3 : Ex H5 (upd H5 sv1 (.tup [.int 0, .ref e1, .ref e2])) := Ex.new hsv1
        have g3 : (upd H5 sv1 (.tup [.int 0, .ref e1, .ref e2])) sv1 = some (.tup [.int 0, .ref e1, .ref e2]) := upd_same
        generalize upd H5 sv1 (.tup [.int 0, .ref e1, .ref e2]) = H6 at z3 g3 ⊢
        have W6 : WP H0 b lk ks _ H6 := Wd.ex W ((z1.trans z2).trans z3)
        have sa1 : SvAt K H6 sv1 0 [] [] := ⟨e1, e2, st_of g3, ⟨[], ⟨oe1, (z2.trans z3) _ _ g1, od1⟩, .nil⟩, ⟨[], ⟨oe2, z3 _ _ g2, od2⟩, .nil⟩⟩
        refine ⟨.ref b, rfl, .ref lk, rfl, b, lk, ks, rfl, W6.bag, W6.ky, by omega, fun sv2 at2 rws2 sp2 H7 f7 _ sa2 a20 a21 hrw2 rl2 hsp2 => ⟨sz_of (by simp), fun pl hpl => ?_⟩⟩
        obtain ⟨W7, k67⟩ := W6.fr f7
        have z8 : Ex H7 (upd H7 pl (.lst [.ref sv1, .ref sv2])) := Ex.new hpl
        have g8 : (upd H7 pl (.lst [.ref sv1, .ref sv2])) pl = some (.lst [.ref sv1, .ref sv2]) := upd_same
        have plb : pl ≠ b := W7.bag.ne hpl
        generalize upd H7 pl (.lst [.ref sv1, .ref sv2]) = H8 at z8 g8 ⊢
        have W8 : WP H0 b lk ks _ H8 := Wd.ex W7 z8
        refine take_of (b := b) (m := 2) W8.bag (ea_cons (ev_var rfl) (ea_cons ev_c ea_nil)) (by decide) (by decide) fun dr H9 f9 d0 d1 => ?_
        obtain ⟨W9, k89⟩ := W8.fr f9
        have g9 := f9.at g8 plb
        have k79 := (Kt.ex z8).trans k89
        have k69 := k67.trans k79
        have pick : ∃ (sv : Addr) (z : Iv), atI [V.ref sv1, .ref sv2] dr = some (.ref sv) ∧ SvAt K H9 sv z.1 z.2.1 z.2.2 ∧ ivOk z := by
          rcases (show dr = 0 ∨ dr = 1 by omega) with rfl | rfl
          · exact ⟨sv1, (0, [], []), rfl, sa1.kt k69, (fun r m => by cases m), Nat.zero_le _, fun r m => by cases m⟩
          · exact ⟨sv2, (at2, rws2, sp2), rfl, sa2.kt k79, (fun r m => ⟨bdK _ (hrw2 r m).1, (hrw2 r m).2⟩), rl2, hsp2⟩
        obtain ⟨sv, z, hpk, sa, zok⟩ := pick
        refine ⟨pl, _, dr, _, rfl, rfl, sq_of g9, hpk, ?_⟩
        obtain ⟨hD9, sv9⟩ := wp_sav W9 rfl
        have W10 : WP H0 b lk ks (PS.zero.put .sav (pSav K D (acc ++ [V.ref sv]) (updN iv i2 z))) (upd H9 D (.lst (acc ++ [V.ref sv]))) := by
          refine (W9.chg (H' := upd H9 D (.lst (acc ++ [V.ref sv]))) .sav (pSav K D (acc ++ [V.ref sv]) (updN iv i2 z)) (by decide) (by decide) (fun x u n h => by rw [upd_ne n]; exact h) (fun x e => .inl e) ⟨upd_same, fun j v e => ?_⟩).1
          by_cases hj : j = i2
          · subst hj
            rw [← la, List.getElem?_concat_length] at e
            cases e
            rw [updN_same]
            exact ⟨sv, rfl, sa.kt (kt_put hD9), zok⟩
          · rw [updN_ne hj]
            rw [List.getElem?_append_left (by have := (List.getElem?_eq_some_iff.mp e).1; rw [List.length_append, List.length_singleton] at this; omega)] at e
            obtain ⟨s9, e9, k9, o9⟩ := sv9 j v e
            exact ⟨s9, e9, k9.kt (kt_put hD9), o9⟩
        exact r _ _ hD9 ⟨_, W10⟩
      obtain ⟨iv, W⟩ := p
      try dsimp only
      obtain ⟨m0, hm0⟩ : ∃ m0 : Nat → TM, m0 = fun j => ⟨(j : Int) + 1, (iv j).1, learnS (fun _ => none) (iv j).2.2 (iv j).2.1, [], [], []⟩ := ⟨_, rfl⟩
      have B : Bd K C Cp H0 b lk ks sa svs iv m0 .non .non .non 0 0 0 (fun _ => 0) (fun _ => 0) (fun _ => 0) (fun _ _ => False) (fun _ _ => False) (PS.zero.put .sav (pSav K sa svs iv)) G0 := ⟨W, rfl, rfl, rfl, rfl, (fun j h => by omega), (fun j _ => rfl), (fun j h => by omega), (fun j _ => rfl), (fun j h => by omega), (fun j _ => rfl), rfl, rfl⟩
      have svAt : ∀ {q : PS} {G : Hp} {j : Nat}, WP H0 b lk ks q G → q.sav = pSav K sa svs iv → j < M → ∃ s9, atI svs (j : Int) = some (.ref s9) ∧ SqL K G sa svs ∧ SvAt K G s9 (iv j).1 (iv j).2.1 (iv j).2.2 ∧ ivOk (iv j) := fun {q G j} w e hj => by
        obtain ⟨h1, h2⟩ := wp_sav w e
        obtain ⟨v, hv⟩ : ∃ v, svs[j]? = some v := ⟨_, List.getElem?_eq_getElem (by omega)⟩
        obtain ⟨s9, rfl, k9, o9⟩ := h2 j v hv
        exact ⟨s9, atI_nat hv, sq_of h1, k9, o9⟩
      clear W
      -- the takers
      refine s_seq (t_asg (lc_mk (n := M) (fun i acc D H' => ∃ P X q, acc = refs P i ∧ Bd K C Cp H0 b lk ks sa svs iv m0 (pL D acc) .non .non i 0 0 P (fun _ => 0) (fun _ => 0) X (fun _ _ => False) q H') (by omega) (fun R r => ⟨.int (M : Int), rfl, (M : Int), rfl, by omega, by omega, r⟩) (fun D nD => ⟨_, _, _, rfl, B.new1 nD⟩) (fun i2 acc D G hi la hacc p => ⟨rfl, fun R r => ?_⟩) (fun acc ta G1 la hacc p => g_name ?_)))
      · obtain ⟨P, X, q, eacc, B⟩ := p
        obtain ⟨s9, hs9, hL, k9, o9⟩ := svAt B.w B.sav hi
        refine ⟨.int (i2 : Int), rfl, (i2 : Int), 1, rfl, rfl, ?_⟩
        refine ⟨.ref sa, rfl, .int (i2 : Int), rfl, sa, svs, (i2 : Int), .ref s9, rfl, rfl, hL, hs9, ?_⟩
        refine ⟨rfl, rfl, new_of (life := (i2 : Int) + 1) (SvAt.dp k9) o9.2.1 o9.2.2 fun p Z G2 np x2 S2 zn => ?_⟩
        subst hm0
        have B2 := B.tk' x2 S2 zn
        have hD2 := wp_l B2.w (j := .tks) B2.l1
        exact r _ _ hD2 ⟨_, _, _, by rw [eacc]; exact refs_succ, B2.add1⟩
      obtain ⟨P, X, q1, eacc, B1⟩ := p
      subst eacc
      try dsimp only
      -- what is kept beside
      refine s_seq (t_asg (lc_mk (n := M) (fun i acc D H' => ∃ O Y q, acc = refs O i ∧ Bd K C Cp H0 b lk ks sa svs iv m0 (pL ta (refs P M)) (pL D acc) .non M i 0 P O (fun _ => 0) X Y q H') (by omega) (fun R r => ⟨.int (M : Int), rfl, (M : Int), rfl, by omega, by omega, r⟩) (fun D nD => ⟨_, _, _, rfl, B1.new2 nD⟩) (fun i2 acc D G hi la hacc p => ⟨rfl, fun R r => ?_⟩) (fun acc oa G2 la2 hacc2 p => g_name ?_)))
      · obtain ⟨O, Y, q, eacc, B⟩ := p
        obtain ⟨s9, hs9, hL, k9, o9⟩ := svAt B.w B.sav hi
        refine ⟨.int (i2 : Int), rfl, (i2 : Int), 1, rfl, rfl, ?_⟩
        refine ⟨.ref sa, rfl, .int (i2 : Int), rfl, sa, svs, (i2 : Int), .ref s9, rfl, rfl, hL, hs9, ?_⟩
        refine ⟨s9, (i2 : Int) + 1, _, _, _, rfl, k9, o9.1, o9.2.2, fun o Z G2 x2 zn zo S2 => ?_⟩
        subst hm0
        have B2 := B.ow' x2 S2 zn
        have hD2 := wp_l B2.w (j := .ows) B2.l2
        exact r _ _ hD2 ⟨_, _, _, by rw [eacc]; exact refs_succ, B2.add2⟩
      obtain ⟨O, Y, q2, eacc, B2⟩ := p
      subst eacc
      try dsimp only
      -- what each was told
      refine s_seq (t_asg (lc_mk (n := M) (fun i acc D H' => ∃ T q, acc = refs T i ∧ Bd K C Cp H0 b lk ks sa svs iv m0 (pL ta (refs P M)) (pL oa (refs O M)) (pL D acc) M M i P O T X Y q H') (by omega) (fun R r => ⟨.int (M : Int), rfl, (M : Int), rfl, by omega, by omega, r⟩) (fun D nD => ⟨_, _, rfl, B2.new3 nD⟩) (fun i2 acc D G hi la hacc p => ⟨rfl, fun R r => ?_⟩) (fun acc oL G3 la3 hacc3 p => g_name ?_)))
      · obtain ⟨T', q, eacc, B⟩ := p
        refine ⟨Nat.zero_le _, fun t nt => ?_⟩
        have B3 := B.tl' (Ex.new nt) upd_same nt
        have hD3 := wp_l B3.w (j := .tls) B3.l3
        exact r _ _ hD3 ⟨_, _, by rw [eacc]; exact refs_succ, B3.add3⟩
      obtain ⟨T', q3, eacc, B3⟩ := p
      subst eacc
      try dsimp only
      have L3 := B3.lv (fun i hi => by subst hm0; exact ⟨Nat.zero_le _, (fun e m => by cases m), (fun e m => by cases m), Nat.le_refl _, Nat.le_refl _⟩)
      clear B B1 B2 B3
      refine s_seq (take_of (b := b) (m := 61) L3.w.bag (ea_cons (ev_var rfl) (ea_cons ev_c ea_nil)) (by decide) (by decide) fun n G4 f4 n0 n61 => ?_)
      obtain ⟨nt, rfl⟩ : ∃ nt : Nat, n = (nt : Int) := ⟨n.toNat, by omega⟩
      refine ⟨20, (nt : Int), rfl, rfl, (20 + (nt : Int)), rfl, by omega, by omega, ?_⟩
      have e20 : (20 + (nt : Int)).toNat = 20 + nt := by omega
      rw [e20]
      have L4 := L3.fr f4
      refine for_range (lo := 0) (n := 20 + nt) (fun j σ' G => ∃ y5 y10 y11 y12 y13 y14 q m X us ss, σ' = [some (.ref a), some (.int (i : Int)), some (.ref b), some (.ref lk), some (.int (M : Int)), y5, some (.ref sa), some (.ref ta), some (.ref oa), some (.ref oL), y10, y11, y12, y13, y14] ∧ LV K C Cp H0 b lk ks M sa ta oa oL svs iv P O T' m0 q m X Y us ss G ∧ ∀ i2, i2 < M → (ss i2).length ≤ 3 * j) ⟨_, _, _, _, _, _, _, _, _, _, _, rfl, L4, fun i2 _ => Nat.zero_le _⟩ (fun j σ' G hj p' => ?_) (fun σ' G p' => ?_)
      · obtain ⟨y5, y10, y11, y12, y13, y14, q, m, X, us, ss, rfl, S, hlen⟩ := p'
        refine g_name ?_
        try dsimp only
        refine s_seq (t_asg (take_of (b := b) (m := (M : Int)) S.w.bag (ea_cons (ev_var rfl) (ea_cons (ev_var rfl) ea_nil)) (by omega) (by omega) fun at0 G1 f1 a0 aM => g_name ?_))
        try dsimp only
        obtain ⟨A, rfl⟩ : ∃ A : Nat, at0 = (A : Int) := ⟨at0.toNat, by omega⟩
        have hA' : A < M := by omega
        have S1 := S.fr f1
        obtain ⟨V1, few1⟩ := S1.few hA' (by have := hlen A hA'; omega)
        have hO := wp_l S1.w (j := .ows) S1.ows
        have hW := wp_ow S1.w (S1.ow A hA')
        have yb : ¬ Y A b := fun z => S1.w.d (.ow A) .bag (by intro e; cases e) b (by rw [show q.p b lk ks (.ow A) = q.ow A from rfl, S1.ow A hA']; exact z) rfl
        refine s_seq ⟨.ref b, rfl, .ref oa, rfl, .int (A : Int), rfl, oa, _, _, _, rfl, rfl, sq_of hO, refs_at hA', .ref lk, rfl, b, O A, lk, ks, m A, Y A, rfl, S1.w.bag, yb, S1.w.ky, h64, kpw, hW, (S1.po hA').2, few1.pl, fun st s us0 G2 f2 hst du hs => g_name ?_⟩
        try dsimp only
        have S2 := S1.fr f2
        have hsN := hs.n
        obtain ⟨w, rest, hw⟩ : ∃ (w : Str) (rest : List PyData), tsD s = .str w :: rest := by cases s <;> exact ⟨_, _, rfl⟩
        obtain ⟨u0, us1, hus, hu0, _⟩ := dps_consT (show DpAll K G2 us0 (.str w :: rest) from hw ▸ du)
        cases hu0
        subst hus
        refine for_of (fun Q' q' => ?_)
        refine lc_flt (fun (i2 : Nat) => decide (V.int (i2 : Int) = V.int (A : Int)) || decide (V.str w = V.str "answer")) (n := M) (by omega) (fun R r => ⟨.int (M : Int), rfl, (M : Int), rfl, by omega, by omega, r⟩) (fun x => rfl) (fun i2 H1 hi2 x1 => et_or (et_test (ev_op (ev_var rfl) (ev_var rfl) (rv_eq rfl))) fun _ => et_test (ev_op (ev_ix0 (ev_var rfl) (Evl.ex_t x1 hst)) ev_c (rv_eq rfl))) (fun i2 H1 _ _ => ev_var rfl) fun D G3 nD x3 hD => q' D _ G3 (sq_of hD) ?_
        have Olt : ∀ o ∈ (List.range M).filter fun (i2 : Nat) => decide (V.int (i2 : Int) = V.int (A : Int)) || decide (V.str w = V.str "answer"), o < M := fun o mo => List.mem_range.mp (List.mem_filter.mp mo).1
        have Ole : ((List.range M).filter fun (i2 : Nat) => decide (V.int (i2 : Int) = V.int (A : Int)) || decide (V.str w = V.str "answer")).length ≤ 3 := by
          refine Nat.le_trans (List.length_filter_le _ _) ?_
          rw [List.length_range]
          exact M3
        generalize ((List.range M).filter fun (i2 : Nat) => decide (V.int (i2 : Int) = V.int (A : Int)) || decide (V.str w = V.str "answer")) = Os at hD Olt Ole ⊢
        have S3 := S2.put (j := .oth) (.inr rfl) (S2.w.new .oth (pL D (Os.map fun (o : Nat) => V.int (o : Int))) (by decide) (by decide) x3 (fun a e => by rw [show a = D from e]; exact nD) ⟨hD, trivial⟩)
        have hst3 := Evl.ex_t x3 hst
        have du3 := dps_same x3 _ _ du
        clear hst du S2 S1 hO hW yb V1 few1 S
        refine for_list (K := K) (a := D) (xs := Os.map fun (o : Nat) => V.int (o : Int)) (fun jj σ' G => ∃ y12 y13 q m X us ss, σ' = [some (.ref a), some (.int (i : Int)), some (.ref b), some (.ref lk), some (.int (M : Int)), some (.int (A : Int)), some (.ref sa), some (.ref ta), some (.ref oa), some (.ref oL), some (.int ((0 : Int) + (j : Int))), some (.ref st), y12, y13, y14] ∧ LV K C Cp H0 b lk ks M sa ta oa oL svs iv P O T' m0 q m X Y us ss G ∧ q.oth = pL D (Os.map fun (o : Nat) => V.int (o : Int)) ∧ SqT K G st (.str w :: us1) ∧ DpAll K G (.str w :: us1) (tsD s) ∧ ∀ i2, i2 < M → (ss i2).length ≤ 3 * j + jj) ⟨_, _, _, _, _, _, _, rfl, S3, rfl, hst3, du3, hlen⟩ (fun jj σ' G _ ⟨_, _, _, _, _, _, _, _, S, eo, _, _, _⟩ => sq_of (wp_l S.w (j := .oth) eo)) (fun jj x σ' G hx p' => ?_) (fun σ' G p' => ?_)
        · obtain ⟨y12, y13, q, m, X, us, ss, rfl, S, eo, hst, du, hlen⟩ := p'
          rw [List.getElem?_map] at hx
          obtain ⟨o, ho, rfl⟩ := Option.map_eq_some_iff.mp hx
          have oM := Olt o (List.mem_of_getElem? ho)
          have hj3 : jj < 3 := by
            have := (List.getElem?_eq_some_iff.mp ho).1
            omega
          obtain ⟨_, few⟩ := S.few oM (by have := hlen o oM; omega)
          have ul : (us o).length ≤ 1000 := by
            have h1 := dps_len (wp_tl S.w (S.tl o oM)).2.1
            rw [dues_len] at h1
            have := hlen o oM
            omega
          have len' : ∀ i2, i2 < M → (updN ss o (ss o ++ [s]) i2).length ≤ 3 * j + (jj + 1) := fun i2 h2 => by
            by_cases h : i2 = o
            · subst h
              rw [updN_same, List.length_append, List.length_singleton]
              have := hlen i2 h2
              omega
            · rw [updN_ne h]
              have := hlen i2 h2
              omega
          refine g_name ?_
          try dsimp only
          refine s_seq ⟨.ref oa, rfl, .int (o : Int), rfl, oa, _, _, _, rfl, rfl, sq_of (wp_l S.w (j := .ows) S.ows), refs_at oM, .ref st, rfl, O o, st, m o, Y o, s, _, rfl, wp_ow S.w (S.ow o oM), few, hst, du, hsN.1.ok, (fun i d e => by subst e; exact hsN.1.2.2), fun m' e t G4 q4 ht4 => g_name ?_, fun r i' e t G4 x4 ht4 => g_name ?_⟩
          · try dsimp only
            obtain ⟨W4, k4⟩ := wp_own S.w (S.ow o oM) q4
            have hst4 := k4.t hst
            have du4 := k4.dps hsN.2 du
            refine s_seq ⟨.ref oL, rfl, .int (o : Int), rfl, oL, _, _, _, rfl, rfl, sq_of (wp_l W4 (j := .tls) S.tls), refs_at oM, .inl ⟨rfl, _, sq_of (wp_tl (i := o) W4 (S.tl o oM)).1⟩, .ref st, rfl, .ref t, rfl, sz_of (by simp), fun tt ntt => ?_⟩
            have x5 := Ex.new ntt (o := .tup [.ref st, .ref t])
            have htt : (upd G4 tt (.tup [.ref st, .ref t])) tt = some (.tup [.ref st, .ref t]) := upd_same
            generalize upd G4 tt (.tup [.ref st, .ref t]) = G5 at x5 htt ⊢
            have W5 : WP H0 b lk ks _ G5 := Wd.ex W4 x5
            have ht5 : Dp K G5 (.ref t) (dueM (m o) s) := by
              rw [due_ok e]
              exact .tup (st_of (x5 _ _ ht4)) (.cons (.str _) (.cons .non .nil))
            have dt5 : Dp K G5 (.ref tt) (.tuple [.tuple (tsD s), dueM (m o) s]) := .tup (st_of htt) (.cons (.tup (Evl.ex_t x5 hst4) (dps_same x5 _ _ du4)) (.cons ht5 .nil))
            obtain ⟨W6, k6⟩ := wp_app (i := o) W5 (S.tl o oM) dt5 (two_nl hsN (m o))
            refine ⟨T' o, us o, .ref tt, rfl, rfl, (wp_tl (i := o) W5 (S.tl o oM)).1, sz_lt (by omega), ?_⟩
            have hst6 := k6.t (Evl.ex_t x5 hst4)
            have du6 := k6.dps hsN.2 (dps_same x5 _ _ du4)
            have ht6 := k6.t (st_of (K := K) (x5 _ _ ht4))
            refine s_next ?_
            refine ⟨.ref ta, rfl, .int (o : Int), rfl, ta, _, _, _, rfl, rfl, sq_of (wp_l W6 (j := .tks) S.tks), refs_at oM, .ref st, rfl, P o, st, m o, X o, s, _, rfl, wp_tk (i := o) W6 (S.tk o oM), few, hst6, du6, hsN.1.ok, fun m2 e2 t7 G7 q7 ht7 => ?_, fun r i' e2 => by rw [e] at e2; cases e2⟩
            rw [e] at e2
            cases e2
            obtain ⟨X7, W7, k7⟩ := wp_tak (j := .tk o) (by intro z; cases z) (by intro z; cases z) W6 (S.tk o oM) q7
            refine ⟨_, rfl, ne_raw (n := 1) (d := .tuple [.str "", .none]) (.tup (st_of ht7) (.cons (.str _) (.cons .non .nil))) (.tup (k7.t ht6) (.cons (.str _) (.cons .non .nil))) (by decide +kernel) (by decide) ⟨_, rfl, ?_⟩⟩
            refine ite2 (fun z => by cases z) fun _ => s_next ?_
            have SL := S.okS oM hsN e W7
            exact ⟨_, _, _, _, _, _, _, rfl, SL, eo, k7.t hst6, k7.dps hsN.2 du6, len'⟩
          · try dsimp only
            have S4 := S.ex x4
            have W4 := S4.w
            have hst4 := Evl.ex_t x4 hst
            have du4 := dps_same x4 _ _ du
            refine s_seq ⟨.ref oL, rfl, .int (o : Int), rfl, oL, _, _, _, rfl, rfl, sq_of (wp_l W4 (j := .tls) S.tls), refs_at oM, .inl ⟨rfl, _, sq_of (wp_tl (i := o) W4 (S.tl o oM)).1⟩, .ref st, rfl, .ref t, rfl, sz_of (by simp), fun tt ntt => ?_⟩
            have x5 := Ex.new ntt (o := .tup [.ref st, .ref t])
            have htt : (upd G4 tt (.tup [.ref st, .ref t])) tt = some (.tup [.ref st, .ref t]) := upd_same
            generalize upd G4 tt (.tup [.ref st, .ref t]) = G5 at x5 htt ⊢
            have W5 : WP H0 b lk ks _ G5 := Wd.ex W4 x5
            have ht5 : Dp K G5 (.ref t) (dueM (m o) s) := by
              rw [due_no e]
              exact .tup (st_of (x5 _ _ ht4)) (.cons (.str _) (.cons (dp_iV i') .nil))
            have dt5 : Dp K G5 (.ref tt) (.tuple [.tuple (tsD s), dueM (m o) s]) := .tup (st_of htt) (.cons (.tup (Evl.ex_t x5 hst4) (dps_same x5 _ _ du4)) (.cons ht5 .nil))
            obtain ⟨W6, k6⟩ := wp_app (i := o) W5 (S.tl o oM) dt5 (two_nl hsN (m o))
            refine ⟨T' o, us o, .ref tt, rfl, rfl, (wp_tl (i := o) W5 (S.tl o oM)).1, sz_lt (by omega), ?_⟩
            have hst6 := k6.t (Evl.ex_t x5 hst4)
            have du6 := k6.dps hsN.2 (dps_same x5 _ _ du4)
            have ht6 := k6.t (st_of (K := K) (x5 _ _ ht4))
            refine s_next ?_
            refine ⟨.ref ta, rfl, .int (o : Int), rfl, ta, _, _, _, rfl, rfl, sq_of (wp_l W6 (j := .tks) S.tks), refs_at oM, .ref st, rfl, P o, st, m o, X o, s, _, rfl, wp_tk (i := o) W6 (S.tk o oM), few, hst6, du6, hsN.1.ok, (fun m2 e2 => by rw [e] at e2; cases e2), fun r2 i2 e2 t7 G7 x7 ht7 => ?_⟩
            rw [e] at e2
            cases e2
            refine ⟨_, rfl, ne_raw (n := 1) (d := .tuple [.str (rtT r), iDx i']) (.tup (st_of ht7) (.cons (.str _) (.cons (dp_iV i') .nil))) (.tup (Evl.ex_t x7 ht6) (.cons (.str _) (.cons (dp_iV i') .nil))) (sd_rt r i') (by decide) ⟨_, rfl, ?_⟩⟩
            refine ite2 (fun z => by cases z) fun _ => s_next ?_
            have SL := S.noS oM hsN e (Wd.ex W6 x7)
            exact ⟨_, _, _, _, _, _, _, rfl, SL, eo, Evl.ex_t x7 hst6, dps_same x7 _ _ du6, len'⟩
        · obtain ⟨y12, y13, q, m, X, us, ss, rfl, S, eo, hst, du, hlen⟩ := p'
          rw [List.length_map] at hlen
          exact ⟨_, _, _, _, _, _, _, _, _, _, _, rfl, S, fun i2 h2 => by have := hlen i2 h2; omega⟩
      · obtain ⟨y5, y10, y11, y12, y13, y14, q, m, X, us, ss, rfl, S, hlen⟩ := p'
        try dsimp only
        refine ⟨.int (M : Int), rfl, (M : Int), rfl, by omega, by omega, ?_⟩
        refine for_range (lo := 0) (n := M) (fun jj σ' G => ∃ y5 y11 y13 y14 q, σ' = [some (.ref a), some (.int (i : Int)), some (.ref b), some (.ref lk), some (.int (M : Int)), y5, some (.ref sa), some (.ref ta), some (.ref oa), some (.ref oL), y10, y11, y12, y13, y14] ∧ LV K C Cp H0 b lk ks M sa ta oa oL svs iv P O T' m0 q m X Y us ss G) ⟨_, _, _, _, q, rfl, S⟩ (fun jj σ' G hjj p' => ?_) (fun σ' G p' => ?_)
        · obtain ⟨y5, y11, y13, y14, q, rfl, S⟩ := p'
          refine g_name ?_
          have e0 : (0 : Int) + (jj : Int) = (jj : Int) := by omega
          rw [e0]
          try dsimp only
          obtain ⟨s9, hs9, hL, k9, o9⟩ := svAt S.w S.sav hjj
          refine s_seq ⟨.int (jj : Int), rfl, (jj : Int), 1, rfl, rfl, .ref sa, rfl, .int (jj : Int), rfl, sa, svs, (jj : Int), .ref s9, rfl, rfl, hL, hs9, rfl, rfl, new_of (life := (jj : Int) + 1) (SvAt.dp k9) o9.2.1 o9.2.2 fun p3 Z G2 np x2 S2 zn => g_name ?_⟩
          try dsimp only
          have W2 : WP H0 b lk ks (q.put .al (pTk K C Cp p3 (m0 jj) Z)) G2 := by
            subst hm0
            exact S.w.new .al _ (by decide) (by decide) x2 zn S2
          have SA := S.put (j := .al) (.inl rfl) W2
          have hTl := wp_tl (i := jj) W2 (S.tl jj hjj)
          have fewA : ∀ n, n ≤ (ss jj).length → TFew (runM (m0 jj) ((ss jj).take n)) := fun n hn => (S.hv jj hjj n hn).few (by have := hlen jj hjj; omega)
          -- the same alone
          refine s_seq ⟨.ref oL, rfl, .int (jj : Int), rfl, oL, _, _, _, rfl, rfl, sq_of (wp_l W2 (j := .tls) S.tls), refs_at hjj, T' jj, rfl, ⟨_, sq_of hTl.1⟩, ?_⟩
          refine for_list (K := K) (a := T' jj) (xs := us jj) (fun n σ' G => ∃ y11 y13 q Z, σ' = [some (.ref a), some (.int (i : Int)), some (.ref b), some (.ref lk), some (.int (M : Int)), some (.int (jj : Int)), some (.ref sa), some (.ref ta), some (.ref oa), some (.ref oL), y10, y11, y12, y13, some (.ref p3)] ∧ LV K C Cp H0 b lk ks M sa ta oa oL svs iv P O T' m0 q m X Y us ss G ∧ q.al = pTk K C Cp p3 (runM (m0 jj) ((ss jj).take n)) Z) ⟨_, _, _, Z, rfl, SA, rfl⟩ (fun n σ' G _ ⟨_, _, _, _, _, S, _⟩ => sq_of (wp_tl (i := jj) S.w (S.tl jj hjj)).1) (fun n x σ' G hx p' => ?_) (fun σ' G p' => ?_)
          · obtain ⟨y11, y13, q, Z, rfl, S, ea⟩ := p'
            obtain ⟨hT, dT, nT⟩ := wp_tl (i := jj) S.w (S.tl jj hjj)
            obtain ⟨d, hd, hxd⟩ := dps_at dT hx
            have nlt : n < (ss jj).length := by
              have := (List.getElem?_eq_some_iff.mp hd).1
              rw [dues_len] at this
              exact this
            obtain ⟨s, hs⟩ : ∃ s, (ss jj)[n]? = some s := ⟨_, List.getElem?_eq_getElem nlt⟩
            rw [dues_at _ _ _ _ hs] at hd
            cases hd
            obtain ⟨pa, v0, v1, rfl, hpa, d0, d1⟩ := dpt2 hxd
            obtain ⟨st, us0, rfl, hst, du⟩ : ∃ st us0, v0 = .ref st ∧ SqT K G st us0 ∧ DpAll K G us0 (tsD s) := by
              cases d0 with
              | tup h r => exact ⟨_, _, rfl, h, r⟩
            have hsN := S.sn jj hjj s (List.mem_of_getElem? hs)
            have few := fewA n (by omega)
            have tk1 : (ss jj).take (n + 1) = (ss jj).take n ++ [s] := by
              rw [List.take_succ, hs]
              rfl
            have hal : TkM K C Cp G p3 (runM (m0 jj) ((ss jj).take n)) Z := by
              have := S.w.a .al
              rw [show q.p b lk ks .al = q.al from rfl, ea] at this
              exact this
            refine ⟨pa, _, rfl, hpa, rfl, _, _, rfl, _, _, rfl, rfl, ?_⟩
            try dsimp only
            cases e : tdo (runM (m0 jj) ((ss jj).take n)) s with
            | ok m' =>
              refine ⟨.ref p3, rfl, .ref st, rfl, p3, st, _, Z, s, us0, rfl, hal, few, hst, du, hsN.1.ok, fun m2 e2 t7 G7 q7 ht7 => ?_, fun r i' e2 => by rw [e] at e2; cases e2⟩
              rw [e] at e2
              cases e2
              obtain ⟨Z7, W7, k7⟩ := wp_tak (j := .al) (by decide) (by decide) S.w ea q7
              have d17 := k7.dp 2 _ _ (due_nl _ s) d1
              rw [due_ok e] at d17
              refine ⟨_, rfl, ne_raw (n := 1) (d := .tuple [.str "", .none]) (.tup (st_of ht7) (.cons (.str _) (.cons .non .nil))) d17 (by decide +kernel) (by decide) ⟨_, rfl, ?_⟩⟩
              refine ite2 (fun z => by cases z) fun _ => s_next ?_
              refine ⟨_, _, _, Z7, rfl, S.put (j := .al) (.inl rfl) W7, ?_⟩
              have e3 : stepM (runM (m0 jj) ((ss jj).take n)) s = m' := by
                unfold stepM
                rw [e]
              rw [tk1, runM_snoc, e3]
              rfl
            | no r i' =>
              refine ⟨.ref p3, rfl, .ref st, rfl, p3, st, _, Z, s, us0, rfl, hal, few, hst, du, hsN.1.ok, (fun m2 e2 => by rw [e] at e2; cases e2), fun r2 i2 e2 t7 G7 x7 ht7 => ?_⟩
              rw [e] at e2
              cases e2
              have d17 := dp_same x7 _ _ d1
              rw [due_no e] at d17
              refine ⟨_, rfl, ne_raw (n := 1) (d := .tuple [.str (rtT r), iDx i']) (.tup (st_of ht7) (.cons (.str _) (.cons (dp_iV i') .nil))) d17 (sd_rt r i') (by decide) ⟨_, rfl, ?_⟩⟩
              refine ite2 (fun z => by cases z) fun _ => s_next ?_
              refine ⟨_, _, _, Z, rfl, S.ex x7, ?_⟩
              have e3 : stepM (runM (m0 jj) ((ss jj).take n)) s = runM (m0 jj) ((ss jj).take n) := by
                unfold stepM
                rw [e]
              rw [tk1, runM_snoc, e3]
              exact ea
          obtain ⟨y11, y13, q, Z, rfl, S, ea⟩ := p'
          try dsimp only
          have lu : (us jj).length = (ss jj).length := by
            have h1 := dps_len (wp_tl (i := jj) S.w (S.tl jj hjj)).2.1
            rw [dues_len] at h1
            omega
          rw [lu, List.take_length, ← S.mr jj hjj] at ea
          have hal : TkM K C Cp G p3 (m jj) Z := by
            have := S.w.a .al
            rw [show q.p b lk ks .al = q.al from rfl, ea] at this
            exact this
          obtain ⟨V, few⟩ := S.few hjj (by have := hlen jj hjj; omega)
          have hTk := wp_tk (i := jj) S.w (S.tk jj hjj)
          have hta := wp_l S.w (j := .tks) S.tks
          have sF := sd_svF (m jj).at' (m jj).f
          have sE : sd 2 (.list (m jj).ev) = true := List.all_eq_true.mpr V.sd'
          refine s_seq (s_if (b := false) (et_is (et_or (et_is (b := false) (et_not (et_eqP kit T.cl hal hTk (ev_var rfl) (ev_at hta hjj rfl rfl))) (by rw [sd_eq sF]; rfl)) fun _ => et_is (et_or (et_neD (K := K) (eEv_on hal (ev_var rfl)) (eEv_on hTk (ev_at hta hjj rfl rfl)) (sd_sh sE (by decide)) (sd_eq sE)) fun _ => et_neAd hal hTk few.pl (ev_var rfl) (ev_at hta hjj rfl rfl)) rfl) rfl) (fun z => by cases z) fun _ G5 x5 => s_next ?_)
          try dsimp only
          have S5 := S.ex x5
          refine ⟨.ref ta, rfl, .int (jj : Int), rfl, ta, _, _, _, rfl, rfl, sq_of (x5 _ _ hta), refs_at hjj, .ref oa, rfl, .int (jj : Int), rfl, oa, _, _, _, rfl, rfl, sq_of (wp_l S5.w (j := .ows) S5.ows), refs_at hjj, P jj, O jj, m jj, X jj, Y jj, rfl, wp_tk (i := jj) S5.w (S5.tk jj hjj), wp_ow (i := jj) S5.w (S5.ow jj hjj), few, V.sd', fun G6 x6 => ?_⟩
          refine ⟨true, rfl, ite2 (fun z => by cases z) fun _ => s_next ?_⟩
          exact ⟨_, _, _, _, q, rfl, S5.ex x6⟩
        · obtain ⟨y5, y11, y13, y14, q, rfl, S⟩ := p'
          exact ⟨_, _, _, _, _, _, _, _, _, _, _, _, _, _, rfl, ex_l S.w.x0 hA0⟩
    · obtain ⟨y1, y2, y3, y4, y5, y6, y7, y8, y9, y10, y11, y12, y13, y14, rfl, _⟩ := p
      exact q _
end
end K27
namespace K27
open PySem L2 PyProof.Rows Tc Evl NdefX
abbrev cWaits : Stmt := topS 21
abbrev mXW : Stmt := inClass cWaits 0
theorem scXW : NScope ["self", "number", "__class__"] ["self", "number"] ["__class__"] (defScope mXW) := nscope_by (by decide +kernel)
section
variable {P : Program} {w : World} {K : PySem.W.Frag} {mg : Str → Option Value} {base : Heap}
set_option maxHeartbeats 1000000 in
theorem ok_XW {f C cc cda : Addr} {k : Nat} {dV kV doc pm ct oc : Value} {an od : Option Addr} {osl : Array (Option Value)} (lk : K.lookup f = some ⟨oc, od, .func (PySem.W.fnX "__init__" "Waits.__init__" (defArgs mXW) (defBody mXW) (defScope mXW) [("__class__", cc)] dV kV doc pm an (.ref cda) ct), osl⟩)
    (hcd : PySem.W.codeIn K (.ref cda) "Waits.__init__" = true) (T : OexC K C) (hc : ∃ ol : Obj, K.lookup cc = some ol ∧ ol.data = .cell (some (.ref C))) (hno : PySem.W.findIn K (.ref C) "number" = some none) (Z : SupF P K mg C cda) :
    FnOk P w K mg base CX0 (k + 1) f (PySem.W.fnX "__init__" "Waits.__init__" (defArgs mXW) (defBody mXW) (defScope mXW) [("__class__", cc)] dV kV doc pm an (.ref cda) ct) ["self", "number"] (spX1 C "number") := by
  refine fn_super (N := ["self", "number", "__class__"]) (me := "self") lk hcd scXW (fun vs H Q E h => ?_) T hc rfl rfl (fun _ => ⟨_, rfl⟩) (fun _ => rfl) (fun _ => rfl) (fun _ => rfl) (fun A outer s H E => ?_) (fun A outer s H vs Q E hr h => ?_)
  · obtain ⟨a, i, rfl, _⟩ := h
    rfl
  · exact ⟨rfl, rfl, rfl, rfl, ⟨_, _, _, lk, rfl, rfl, rfl⟩, Z.cd, Z.top, Z.mg, rfl, hc, rfl, Z.cl, Z.mr, Z.op, Z.su, Z.ve⟩
  · obtain ⟨a, i, rfl, ha, hi, q⟩ := h
    refine ⟨a, _, _, rfl, ha, pa_cons (pe_joined (.cons pe_str (.cons (pe_fmt (pv 1)) .nil))) pa_nil, pss_one (ps_ost (pv 0) (pv 1)), fun u hu => ?_⟩
    have ua : a ≠ u := ne_of_none ha hu
    refine ⟨_, rfl, by decide, .int i, rfl, .inr ⟨i, rfl, hi, _, rfl, text_fits (by decide) hi, ?_⟩⟩
    refine ⟨rfl, by simp, .int i, rfl, .ref a, rfl, a, C, rfl, T, hno, .inl ⟨(upd_ne ua).trans ha, fun d hd da => ?_⟩⟩
    have du : d ≠ u := fun z => by
      rw [z, upd_same] at hd
      cases hd
    rw [upd_ne du] at hd
    exact q d _ hd da upd_same ((upd_ne da).trans upd_same) fun b o ba hb => (upd_ne ba).trans ((upd_ne (ne_of_none hb hd)).trans ((upd_ne (ne_of_none hb hu)).trans hb))
end
abbrev cNotAsked : Stmt := topS 22
abbrev mXA : Stmt := inClass cNotAsked 0
theorem scXA : NScope ["self", "number", "__class__"] ["self", "number"] ["__class__"] (defScope mXA) := nscope_by (by decide +kernel)
section
variable {P : Program} {w : World} {K : PySem.W.Frag} {mg : Str → Option Value} {base : Heap}
set_option maxHeartbeats 1000000 in
theorem ok_XA {f C cc cda : Addr} {k : Nat} {dV kV doc pm ct oc : Value} {an od : Option Addr} {osl : Array (Option Value)} (lk : K.lookup f = some ⟨oc, od, .func (PySem.W.fnX "__init__" "NotAsked.__init__" (defArgs mXA) (defBody mXA) (defScope mXA) [("__class__", cc)] dV kV doc pm an (.ref cda) ct), osl⟩)
    (hcd : PySem.W.codeIn K (.ref cda) "NotAsked.__init__" = true) (T : OexC K C) (hc : ∃ ol : Obj, K.lookup cc = some ol ∧ ol.data = .cell (some (.ref C))) (hno : PySem.W.findIn K (.ref C) "number" = some none) (Z : SupF P K mg C cda) :
    FnOk P w K mg base CX0 (k + 1) f (PySem.W.fnX "__init__" "NotAsked.__init__" (defArgs mXA) (defBody mXA) (defScope mXA) [("__class__", cc)] dV kV doc pm an (.ref cda) ct) ["self", "number"] (spX1 C "number") := by
  refine fn_super (N := ["self", "number", "__class__"]) (me := "self") lk hcd scXA (fun vs H Q E h => ?_) T hc rfl rfl (fun _ => ⟨_, rfl⟩) (fun _ => rfl) (fun _ => rfl) (fun _ => rfl) (fun A outer s H E => ?_) (fun A outer s H vs Q E hr h => ?_)
  · obtain ⟨a, i, rfl, _⟩ := h
    rfl
  · exact ⟨rfl, rfl, rfl, rfl, ⟨_, _, _, lk, rfl, rfl, rfl⟩, Z.cd, Z.top, Z.mg, rfl, hc, rfl, Z.cl, Z.mr, Z.op, Z.su, Z.ve⟩
  · obtain ⟨a, i, rfl, ha, hi, q⟩ := h
    refine ⟨a, _, _, rfl, ha, pa_cons (pe_joined (.cons pe_str (.cons (pe_fmt (pv 1)) .nil))) pa_nil, pss_one (ps_ost (pv 0) (pv 1)), fun u hu => ?_⟩
    have ua : a ≠ u := ne_of_none ha hu
    refine ⟨_, rfl, by decide, .int i, rfl, .inr ⟨i, rfl, hi, _, rfl, text_fits (by decide) hi, ?_⟩⟩
    refine ⟨rfl, by simp, .int i, rfl, .ref a, rfl, a, C, rfl, T, hno, .inl ⟨(upd_ne ua).trans ha, fun d hd da => ?_⟩⟩
    have du : d ≠ u := fun z => by
      rw [z, upd_same] at hd
      cases hd
    rw [upd_ne du] at hd
    exact q d _ hd da upd_same ((upd_ne da).trans upd_same) fun b o ba hb => (upd_ne ba).trans ((upd_ne (ne_of_none hb hd)).trans ((upd_ne (ne_of_none hb hu)).trans hb))
end
abbrev sStre : Stmt := topS 38
theorem scStre : FnScope ["first", "last"] ["first", "last"] (defScope sStre) := ⟨rfl, rfl, rfl, by decide +kernel, rfl, by decide +kernel, by decide +kernel⟩
section
variable {P : Program} {w : World} {K : PySem.W.Frag} {mg : Str → Option Value} {base : Heap}
theorem ok_str1 {f : Addr} {fd : FuncData} {k : Nat} (F : Fun K "is_stretch" "is_stretch" sStre f fd) (N : Names mg) : FnOk P w K mg base CX0 (k + 1) f fd ["first", "last"] spStr1 := by
  refine F.ok scStre (fun vs H Q E h => ?_) (fun cdv A outer s H vs Q E hr h => ?_)
  · obtain ⟨a, b, rfl, _⟩ := h
    rfl
  · obtain ⟨a, b, rfl, q⟩ := h
    obtain ⟨tk, hK⟩ := N.KEYS
    refine ⟨_, pss_one (ps_ret (pe_chain4 op_le op_lt op_le pe_int (pv 0) (pv 1) (pe_glob (v := .int 1000) (by rfl) hK ⟨_, rfl⟩))), ?_⟩
    refine ⟨.int a, rfl, 0, a, rfl, rfl, _, rfl, ?_⟩
    have q' := q H (Ex.refl H)
    by_cases h1 : 0 ≤ a
    · rw [decide_eq_true h1] at q' ⊢
      rw [if_pos rfl]
      refine ⟨.int b, rfl, a, b, rfl, rfl, _, rfl, ?_⟩
      by_cases h2 : a < b
      · rw [decide_eq_true h2] at q' ⊢
        rw [if_pos rfl]
        exact ⟨b, 1000, rfl, rfl, q'⟩
      · rw [decide_eq_false h2] at q' ⊢
        rw [if_neg Bool.false_ne_true]
        exact q'
    · rw [decide_eq_false h1] at q' ⊢
      rw [if_neg Bool.false_ne_true]
      exact q'
end
abbrev mRows : Stmt := inClass sTaker 13
theorem scRowsM : FnScope ["self"] ["self"] (defScope mRows) := ⟨rfl, rfl, rfl, by decide +kernel, rfl, by decide +kernel, by decide +kernel⟩
section
variable {P : Program} {w : World} {K : PySem.W.Frag} {mg : Str → Option Value} {base : Heap}
theorem ok_rowsM {f C : Addr} {fd : FuncData} {kKr k : Nat} (F : Fun K "rows" "Taker.rows" mRows f fd) (T : Txt K mg C) (dKr : Own P w K mg base "known_rows" ["known"] kKr (spKr K)) (hKr : kKr ≤ k) : FnOk P w K mg base CX0 (k + 1) f fd ["self"] (spRows K C) := by
  refine F.ok scRowsM (fun vs H Q E h => ?_) (fun cdv A outer s H vs Q E hr h => ?_)
  · obtain ⟨p, d, g, pp, nn, life, at', kvs, gv, f, ks, rfl, _⟩ := h
    rfl
  · obtain ⟨p, d, g, pp, nn, life, at', kvs, gv, f, ks, rfl, S, kd, hk, h64, q⟩ := h
    refine ⟨_, (pss_one (ps_ret (pe_own dKr hr hKr (by rfl) (pa_cons (pe_fld (pv 0) rfl) pa_nil)))), ?_⟩
    obtain ⟨dx, hp⟩ := S.ob
    exact ⟨_, rfl, p, C, dx, _, _, rfl, hp, T.cl, T.aK, fl_known _ _ _ _ _ _, d, ks, kvs, f, rfl, S.dc, kd, hk, h64, q⟩
end
end K27
namespace K27
open PySem L2 PyProof.Rows Tc Evl
theorem kb_saved {K : PySem.W.Frag} {f : Addr} {fd : FuncData} (F : FunD K "__init__" "Taker.__init__" (defArgs mInit) (defBody mInit) (defScope mInit) [] [("place", .int 0)] f fd) : ∃ g, KBn K fd ["self", "life", "place", "saved"] 2 ["saved"] g (fun vs zs => vs ++ [.int 0] ++ zs) := by
  obtain ⟨mv, h⟩ := F.kbinds0 (ps := ["self", "life", "place", "saved"]) 2 ["saved"] [("place", .int 0)] (fun us mv ws => us ++ mv ++ ws) (by simp) (fun q m => m) (fun r1 r2 r3 => (r1.append r2).append r3) (fun D doc pm an cdv ct us mv ws l1 l2 l3 => by
    match us, mv, ws, l1, l2, l3 with
    | [a, b], [m], [s], _, _, _ => exact ⟨_, _, _, _, _, _, rfl, rfl, rfl⟩)
  exact ⟨_, h⟩
def fileN : Str := PySem.Challenge.pw_tidecopy_k27_whole_several_takers.main.file
def eqE (K : PySem.W.Frag) (x : Str) : Bool := He.eqO (PySem.W.nsIn K mainGlobals x) (some (some (.ref (He.ga K x))))
def hfs : List (PySem.W.Frag → Bool) := [fun K => (He.Fa.glo "is_number").ok K,
  fun K => (He.Fa.glo "is_key").ok K,
  fun K => (He.Fa.glo "is_worth").ok K,
  fun K => (He.Fa.glo "is_row").ok K,
  fun K => (He.Fa.glo "is_rows").ok K,
  fun K => (He.Fa.glo "rising").ok K,
  fun K => (He.Fa.glo "is_stretch").ok K,
  fun K => (He.Fa.glo "stretches_of").ok K,
  fun K => (He.Fa.glo "learn_change").ok K,
  fun K => (He.Fa.glo "learn_piece").ok K,
  fun K => (He.Fa.glo "known_rows").ok K,
  fun K => (He.Fa.glo "_law_bag").ok K,
  fun K => (He.Fa.glo "_law_take").ok K,
  fun K => (He.Fa.glo "_law_of").ok K,
  fun K => (He.Fa.glo "_law_kinds").ok K,
  fun K => (He.Fa.glo "_law_keys").ok K,
  fun K => (He.Fa.glo "_law_table").ok K,
  fun K => (He.Fa.glo "_law_changes").ok K,
  fun K => (He.Fa.glo "_law_stretch").ok K,
  fun K => (He.Fa.glo "_law_spans").ok K,
  fun K => (He.Fa.glo "_law_field").ok K,
  fun K => (He.Fa.glo "_law_taker_tried").ok K,
  fun K => (He.Fa.glo "_law_within").ok K,
  fun K => (He.Fa.glo "_law_entry").ok K,
  fun K => (He.Fa.glo "_law_is_pair").ok K,
  fun K => (He.Fa.glo "_law_are_pairs").ok K,
  fun K => (He.Fa.glo "_law_done").ok K,
  fun K => (He.Fa.glo "_law_taker_new").ok K,
  fun K => (He.Fa.glo "_law_taker_takes").ok K,
  fun K => (He.Fa.glo "_law_taker_copies").ok K,
  fun K => (He.Fa.glo "_law_taker_due").ok K,
  fun K => (He.Fa.glo "_law_taker_step").ok K,
  fun K => (He.Fa.glo "_law_pairs").ok K,
  fun K => (He.Fa.glo "_law_taker_so").ok K,
  fun K => (He.Fa.glo "_law_saved").ok K,
  fun K => (He.Fa.glo "law").ok K,
  fun K => (He.Fa.glo "Taker").ok K,
  fun K => (He.Fa.cls "Taker").ok K,
  fun K => (He.Fa.mkr "Taker").ok K,
  fun K => (He.Fa.meth "Taker" "begin_with").ok K,
  fun K => (He.Fa.meth "Taker" "take").ok K,
  fun K => (He.Fa.meth "Taker" "take_group").ok K,
  fun K => (He.Fa.meth "Taker" "take_mark").ok K,
  fun K => (He.Fa.meth "Taker" "copy_piece").ok K,
  fun K => (He.Fa.meth "Taker" "give_out").ok K,
  fun K => (He.Fa.meth "Taker" "ask").ok K,
  fun K => (He.Fa.meth "Taker" "answer").ok K,
  fun K => (He.Fa.meth "Taker" "give_up").ok K,
  fun K => (He.Fa.meth "Taker" "place").ok K,
  fun K => (He.Fa.meth "Taker" "rows").ok K,
  fun K => (He.Fa.meth "Taker" "sure").ok K,
  fun K => (He.Fa.meth "Taker" "events").ok K,
  fun K => (He.Fa.meth "Taker" "asked").ok K,
  fun K => (He.Fa.meth "Taker" "saved").ok K,
  fun K => (He.Fa.meth "Taker" "asked_piece").ok K,
  fun K => (He.Fa.meth "Taker" "life").ok K,
  fun K => (He.Fa.meth "Taker" "__len__").ok K,
  fun K => (He.Fa.meth "Taker" "__eq__").ok K,
  fun K => (He.Fa.noat "Taker" "own_life").ok K,
  fun K => (He.Fa.noat "Taker" "at").ok K,
  fun K => (He.Fa.noat "Taker" "known").ok K,
  fun K => (He.Fa.noat "Taker" "given").ok K,
  fun K => (He.Fa.noat "Taker" "pieces").ok K,
  fun K => (He.Fa.noat "Taker" "numbers").ok K,
  fun K => (He.Fa.glo "Piece").ok K,
  fun K => (He.Fa.cls "Piece").ok K,
  fun K => (He.Fa.mkr "Piece").ok K,
  fun K => (He.Fa.noat "Piece" "stretch").ok K,
  fun K => (He.Fa.noat "Piece" "under_way").ok K,
  fun K => (He.Fa.noat "Piece" "came").ok K,
  fun K => (He.Fa.glo "Twice").ok K,
  fun K => (He.Fa.exc "Twice").ok K,
  fun K => eqE K "Twice" && excB K (He.ga K "Twice") (rtF .twice),
  fun K => (He.Fa.glo "NoStretch").ok K,
  fun K => (He.Fa.exc "NoStretch").ok K,
  fun K => eqE K "NoStretch" && excB K (He.ga K "NoStretch") (rtF .noStretch),
  fun K => (He.Fa.glo "NoRows").ok K,
  fun K => (He.Fa.exc "NoRows").ok K,
  fun K => eqE K "NoRows" && excB K (He.ga K "NoRows") (rtF .noRows),
  fun K => xcB K fileN "Waits" "number" (rtF .waits),
  fun K => xcB K fileN "NotAsked" "number" (rtF .notAsked),
  fun K => (He.Fa.glo "TideError").ok K,
  fun K => (He.Fa.exm "Twice" "TideError" true).ok K,
  fun K => (He.Fa.exm "NoStretch" "TideError" true).ok K,
  fun K => (He.Fa.exm "NoRows" "TideError" true).ok K,
  fun K => (He.Fa.exm "Waits" "TideError" true).ok K,
  fun K => (He.Fa.exm "NotAsked" "TideError" true).ok K,
  fun K => (He.Fa.free "isinstance").ok K,
  fun K => (He.Fa.free "int").ok K,
  fun K => (He.Fa.free "bool").ok K,
  fun K => (He.Fa.free "tuple").ok K,
  fun K => (He.Fa.free "list").ok K,
  fun K => (He.Fa.free "str").ok K,
  fun K => (He.Fa.free "len").ok K,
  fun K => (He.Fa.free "set").ok K,
  fun K => (He.Fa.free "sorted").ok K,
  fun K => (He.Fa.free "range").ok K,
  fun K => (He.Fa.free "abs").ok K,
  fun K => (He.Fa.free "min").ok K,
  fun K => (He.Fa.free "max").ok K,
  fun K => (He.Fa.free "dict").ok K,
  fun K => (He.Fa.free "all").ok K,
  fun K => (He.Fa.free "ValueError").ok K,
  fun K => (He.Fa.int "KEYS" 1000).ok K,
  fun K => (He.Fa.int "WORTHS" 1000).ok K,
  fun K => kitB K (He.ga K "Taker")]
def hfn : List He.DefD := [⟨("is_number", none), "is_number", "is_number", defArgs sNum, defBody sNum, defScope sNum, [], []⟩,
  ⟨("is_key", none), "is_key", "is_key", defArgs sKey, defBody sKey, defScope sKey, [], []⟩,
  ⟨("is_worth", none), "is_worth", "is_worth", defArgs sWorth, defBody sWorth, defScope sWorth, [], []⟩,
  ⟨("is_row", none), "is_row", "is_row", defArgs sRow, defBody sRow, defScope sRow, [], []⟩,
  ⟨("is_rows", none), "is_rows", "is_rows", defArgs sRows, defBody sRows, defScope sRows, [], []⟩,
  ⟨("rising", none), "rising", "rising", defArgs sRi, defBody sRi, defScope sRi, [], []⟩,
  ⟨("is_stretch", none), "is_stretch", "is_stretch", defArgs sStre, defBody sStre, defScope sStre, [], []⟩,
  ⟨("stretches_of", none), "stretches_of", "stretches_of", defArgs sSo, defBody sSo, defScope sSo, [], []⟩,
  ⟨("learn_change", none), "learn_change", "learn_change", defArgs sLc, defBody sLc, defScope sLc, [], []⟩,
  ⟨("learn_piece", none), "learn_piece", "learn_piece", defArgs sLp, defBody sLp, defScope sLp, [], []⟩,
  ⟨("known_rows", none), "known_rows", "known_rows", defArgs sKr, defBody sKr, defScope sKr, [], []⟩,
  ⟨("_law_bag", none), "_law_bag", "_law_bag", defArgs sBag, defBody sBag, defScope sBag, [], []⟩,
  ⟨("_law_take", none), "_law_take", "_law_take", defArgs sTake, defBody sTake, defScope sTake, [], []⟩,
  ⟨("_law_of", none), "_law_of", "_law_of", defArgs sOf, defBody sOf, defScope sOf, [], []⟩,
  ⟨("_law_kinds", none), "_law_kinds", "_law_kinds", defArgs sKinds, defBody sKinds, defScope sKinds, [], []⟩,
  ⟨("_law_keys", none), "_law_keys", "_law_keys", defArgs sKeys, defBody sKeys, defScope sKeys, [], []⟩,
  ⟨("_law_table", none), "_law_table", "_law_table", defArgs sTab, defBody sTab, defScope sTab, [], []⟩,
  ⟨("_law_changes", none), "_law_changes", "_law_changes", defArgs sLCh, defBody sLCh, defScope sLCh, [], []⟩,
  ⟨("_law_stretch", none), "_law_stretch", "_law_stretch", defArgs sStr, defBody sStr, defScope sStr, [], []⟩,
  ⟨("_law_spans", none), "_law_spans", "_law_spans", defArgs sSpans, defBody sSpans, defScope sSpans, [], []⟩,
  ⟨("_law_field", none), "_law_field", "_law_field", defArgs sField, defBody sField, defScope sField, [], []⟩,
  ⟨("_law_taker_tried", none), "_law_taker_tried", "_law_taker_tried", defArgs sTtr, defBody sTtr, defScope sTtr, [], []⟩,
  ⟨("_law_within", none), "_law_within", "_law_within", defArgs sWithin, defBody sWithin, defScope sWithin, [], []⟩,
  ⟨("_law_entry", none), "_law_entry", "_law_entry", defArgs sLEn, defBody sLEn, defScope sLEn, [], []⟩,
  ⟨("_law_is_pair", none), "_law_is_pair", "_law_is_pair", defArgs sPair, defBody sPair, defScope sPair, [], []⟩,
  ⟨("_law_are_pairs", none), "_law_are_pairs", "_law_are_pairs", defArgs sArp, defBody sArp, defScope sArp, [], []⟩,
  ⟨("_law_done", none), "_law_done", "_law_done", defArgs sDone, defBody sDone, defScope sDone, [], []⟩,
  ⟨("_law_taker_new", none), "_law_taker_new", "_law_taker_new", defArgs sTn, defBody sTn, defScope sTn, [], []⟩,
  ⟨("_law_taker_takes", none), "_law_taker_takes", "_law_taker_takes", defArgs sTt, defBody sTt, defScope sTt, [], []⟩,
  ⟨("_law_taker_copies", none), "_law_taker_copies", "_law_taker_copies", defArgs sOc, defBody sOc, defScope sOc, [], []⟩,
  ⟨("_law_taker_due", none), "_law_taker_due", "_law_taker_due", defArgs sDu, defBody sDu, defScope sDu, [], []⟩,
  ⟨("_law_taker_step", none), "_law_taker_step", "_law_taker_step", defArgs sStep, defBody sStep, defScope sStep, [], []⟩,
  ⟨("_law_pairs", none), "_law_pairs", "_law_pairs", defArgs sPairs, defBody sPairs, defScope sPairs, [], []⟩,
  ⟨("_law_taker_so", none), "_law_taker_so", "_law_taker_so", defArgs sTs, defBody sTs, defScope sTs, [], []⟩,
  ⟨("_law_saved", none), "_law_saved", "_law_saved", defArgs sSv, defBody sSv, defScope sSv, [], []⟩,
  ⟨("law", none), "law", "law", defArgs sLaw, defBody sLaw, defScope sLaw, [], []⟩,
  ⟨("Taker", some "__init__"), "__init__", "Taker.__init__", defArgs mInit, defBody mInit, defScope mInit, [], [("place", .int 0)]⟩,
  ⟨("Taker", some "begin_with"), "begin_with", "Taker.begin_with", defArgs mBegin, defBody mBegin, defScope mBegin, [], []⟩,
  ⟨("Taker", some "take"), "take", "Taker.take", defArgs mTake, defBody mTake, defScope mTake, [], []⟩,
  ⟨("Taker", some "take_group"), "take_group", "Taker.take_group", defArgs mGroup, defBody mGroup, defScope mGroup, [], []⟩,
  ⟨("Taker", some "take_mark"), "take_mark", "Taker.take_mark", defArgs mMark, defBody mMark, defScope mMark, [], []⟩,
  ⟨("Taker", some "copy_piece"), "copy_piece", "Taker.copy_piece", defArgs mCopy, defBody mCopy, defScope mCopy, [], []⟩,
  ⟨("Taker", some "give_out"), "give_out", "Taker.give_out", defArgs mGive, defBody mGive, defScope mGive, [], []⟩,
  ⟨("Taker", some "ask"), "ask", "Taker.ask", defArgs mAsk, defBody mAsk, defScope mAsk, [], []⟩,
  ⟨("Taker", some "answer"), "answer", "Taker.answer", defArgs mAns, defBody mAns, defScope mAns, [], []⟩,
  ⟨("Taker", some "give_up"), "give_up", "Taker.give_up", defArgs mGup, defBody mGup, defScope mGup, [], []⟩,
  ⟨("Taker", some "place"), "place", "Taker.place", defArgs mPlace, defBody mPlace, defScope mPlace, [], []⟩,
  ⟨("Taker", some "rows"), "rows", "Taker.rows", defArgs mRows, defBody mRows, defScope mRows, [], []⟩,
  ⟨("Taker", some "sure"), "sure", "Taker.sure", defArgs mSure, defBody mSure, defScope mSure, [], []⟩,
  ⟨("Taker", some "events"), "events", "Taker.events", defArgs mEvents, defBody mEvents, defScope mEvents, [], []⟩,
  ⟨("Taker", some "asked"), "asked", "Taker.asked", defArgs mAsked, defBody mAsked, defScope mAsked, [], []⟩,
  ⟨("Taker", some "saved"), "saved", "Taker.saved", defArgs mSaved, defBody mSaved, defScope mSaved, [], []⟩,
  ⟨("Taker", some "asked_piece"), "asked_piece", "Taker.asked_piece", defArgs mApc, defBody mApc, defScope mApc, [], []⟩,
  ⟨("Taker", some "life"), "life", "Taker.life", defArgs mLife, defBody mLife, defScope mLife, [], []⟩,
  ⟨("Taker", some "__len__"), "__len__", "Taker.__len__", defArgs mLen, defBody mLen, defScope mLen, [], []⟩,
  ⟨("Taker", some "__eq__"), "__eq__", "Taker.__eq__", defArgs mEq, defBody mEq, defScope mEq, [], []⟩,
  ⟨("Piece", some "__init__"), "__init__", "Piece.__init__", defArgs mPc, defBody mPc, defScope mPc, [], []⟩]
def hxs : List XcD := [⟨"Waits", "Waits.__init__", defArgs mXW, defBody mXW, defScope mXW⟩,
  ⟨"NotAsked", "NotAsked.__init__", defArgs mXA, defBody mXA, defScope mXA⟩]
set_option maxHeartbeats 4000000 in
theorem all_mk {P : Program} {w : World} {K : PySem.W.Frag} {h : Heap} {mg : Str → Option Value} {fa : Addr} (X : K.In h) (G : h.Ns mainGlobals mg) (hfa : mg "law" = some (.ref fa)) (xFile : P.main.file = fileN) (xP : (P.main.scope.names.lookup ("super" : Str)).isSome = false) (c : SaysM hfs hfn hxs K) :
    ∃ fd : FuncData, (∀ (s : Shared) (v : Value), BindsTo s fd ⟨[v], []⟩ [("script", v)]) ∧ ∀ base : Heap, K.In base → base.Ns mainGlobals mg → FnOk P w K mg base CX0 10 fa fd ["script"] (spLaw K) := by
  obtain ⟨fd1, FD1⟩ : ∃ fd, FunD K "is_number" "is_number" (defArgs sNum) (defBody sNum) (defScope sNum) [] [] (He.ga K "is_number") fd := c.def_ 0
  have F1 := fun_of FD1
  have m1 := He.glo_ok X G (c.fact 0 (f := fun K => (He.Fa.glo "is_number").ok K) rfl)
  have b1 := F1.binds (ps := ["thing"]) fun _ _ _ _ _ _ us hl => match us, hl with | [_], _ => rfl
  obtain ⟨fd2, FD2⟩ : ∃ fd, FunD K "is_key" "is_key" (defArgs sKey) (defBody sKey) (defScope sKey) [] [] (He.ga K "is_key") fd := c.def_ 1
  have F2 := fun_of FD2
  have m2 := He.glo_ok X G (c.fact 1 (f := fun K => (He.Fa.glo "is_key").ok K) rfl)
  have b2 := F2.binds (ps := ["thing"]) fun _ _ _ _ _ _ us hl => match us, hl with | [_], _ => rfl
  obtain ⟨fd3, FD3⟩ : ∃ fd, FunD K "is_worth" "is_worth" (defArgs sWorth) (defBody sWorth) (defScope sWorth) [] [] (He.ga K "is_worth") fd := c.def_ 2
  have F3 := fun_of FD3
  have m3 := He.glo_ok X G (c.fact 2 (f := fun K => (He.Fa.glo "is_worth").ok K) rfl)
  have b3 := F3.binds (ps := ["thing"]) fun _ _ _ _ _ _ us hl => match us, hl with | [_], _ => rfl
  obtain ⟨fd4, FD4⟩ : ∃ fd, FunD K "is_row" "is_row" (defArgs sRow) (defBody sRow) (defScope sRow) [] [] (He.ga K "is_row") fd := c.def_ 3
  have F4 := fun_of FD4
  have m4 := He.glo_ok X G (c.fact 3 (f := fun K => (He.Fa.glo "is_row").ok K) rfl)
  have b4 := F4.binds (ps := ["thing"]) fun _ _ _ _ _ _ us hl => match us, hl with | [_], _ => rfl
  obtain ⟨fd5, FD5⟩ : ∃ fd, FunD K "is_rows" "is_rows" (defArgs sRows) (defBody sRows) (defScope sRows) [] [] (He.ga K "is_rows") fd := c.def_ 4
  have F5 := fun_of FD5
  have m5 := He.glo_ok X G (c.fact 4 (f := fun K => (He.Fa.glo "is_rows").ok K) rfl)
  have b5 := F5.binds (ps := ["thing", "first", "last"]) fun _ _ _ _ _ _ us hl => match us, hl with | [_, _, _], _ => rfl
  obtain ⟨fd6, FD6⟩ : ∃ fd, FunD K "rising" "rising" (defArgs sRi) (defBody sRi) (defScope sRi) [] [] (He.ga K "rising") fd := c.def_ 5
  have F6 := fun_of FD6
  have m6 := He.glo_ok X G (c.fact 5 (f := fun K => (He.Fa.glo "rising").ok K) rfl)
  have b6 := F6.binds (ps := ["rows"]) fun _ _ _ _ _ _ us hl => match us, hl with | [_], _ => rfl
  obtain ⟨fd7, FD7⟩ : ∃ fd, FunD K "is_stretch" "is_stretch" (defArgs sStre) (defBody sStre) (defScope sStre) [] [] (He.ga K "is_stretch") fd := c.def_ 6
  have F7 := fun_of FD7
  have m7 := He.glo_ok X G (c.fact 6 (f := fun K => (He.Fa.glo "is_stretch").ok K) rfl)
  have b7 := F7.binds (ps := ["first", "last"]) fun _ _ _ _ _ _ us hl => match us, hl with | [_, _], _ => rfl
  obtain ⟨fd8, FD8⟩ : ∃ fd, FunD K "stretches_of" "stretches_of" (defArgs sSo) (defBody sSo) (defScope sSo) [] [] (He.ga K "stretches_of") fd := c.def_ 7
  have F8 := fun_of FD8
  have m8 := He.glo_ok X G (c.fact 7 (f := fun K => (He.Fa.glo "stretches_of").ok K) rfl)
  have b8 := F8.binds (ps := ["keys"]) fun _ _ _ _ _ _ us hl => match us, hl with | [_], _ => rfl
  obtain ⟨fd9, FD9⟩ : ∃ fd, FunD K "learn_change" "learn_change" (defArgs sLc) (defBody sLc) (defScope sLc) [] [] (He.ga K "learn_change") fd := c.def_ 8
  have F9 := fun_of FD9
  have m9 := He.glo_ok X G (c.fact 8 (f := fun K => (He.Fa.glo "learn_change").ok K) rfl)
  have b9 := F9.binds (ps := ["known", "change"]) fun _ _ _ _ _ _ us hl => match us, hl with | [_, _], _ => rfl
  obtain ⟨fd10, FD10⟩ : ∃ fd, FunD K "learn_piece" "learn_piece" (defArgs sLp) (defBody sLp) (defScope sLp) [] [] (He.ga K "learn_piece") fd := c.def_ 9
  have F10 := fun_of FD10
  have m10 := He.glo_ok X G (c.fact 9 (f := fun K => (He.Fa.glo "learn_piece").ok K) rfl)
  have b10 := F10.binds (ps := ["known", "stretch", "rows"]) fun _ _ _ _ _ _ us hl => match us, hl with | [_, _, _], _ => rfl
  obtain ⟨fd11, FD11⟩ : ∃ fd, FunD K "known_rows" "known_rows" (defArgs sKr) (defBody sKr) (defScope sKr) [] [] (He.ga K "known_rows") fd := c.def_ 10
  have F11 := fun_of FD11
  have m11 := He.glo_ok X G (c.fact 10 (f := fun K => (He.Fa.glo "known_rows").ok K) rfl)
  have b11 := F11.binds (ps := ["known"]) fun _ _ _ _ _ _ us hl => match us, hl with | [_], _ => rfl
  obtain ⟨fd12, FD12⟩ : ∃ fd, FunD K "_law_bag" "_law_bag" (defArgs sBag) (defBody sBag) (defScope sBag) [] [] (He.ga K "_law_bag") fd := c.def_ 11
  have F12 := fun_of FD12
  have m12 := He.glo_ok X G (c.fact 11 (f := fun K => (He.Fa.glo "_law_bag").ok K) rfl)
  have b12 := F12.binds (ps := ["script", "k"]) fun _ _ _ _ _ _ us hl => match us, hl with | [_, _], _ => rfl
  obtain ⟨fd13, FD13⟩ : ∃ fd, FunD K "_law_take" "_law_take" (defArgs sTake) (defBody sTake) (defScope sTake) [] [] (He.ga K "_law_take") fd := c.def_ 12
  have F13 := fun_of FD13
  have m13 := He.glo_ok X G (c.fact 12 (f := fun K => (He.Fa.glo "_law_take").ok K) rfl)
  have b13 := F13.binds (ps := ["bag", "many"]) fun _ _ _ _ _ _ us hl => match us, hl with | [_, _], _ => rfl
  obtain ⟨fd14, FD14⟩ : ∃ fd, FunD K "_law_of" "_law_of" (defArgs sOf) (defBody sOf) (defScope sOf) [] [] (He.ga K "_law_of") fd := c.def_ 13
  have F14 := fun_of FD14
  have m14 := He.glo_ok X G (c.fact 13 (f := fun K => (He.Fa.glo "_law_of").ok K) rfl)
  have b14 := F14.binds (ps := ["bag", "some"]) fun _ _ _ _ _ _ us hl => match us, hl with | [_, _], _ => rfl
  obtain ⟨fd15, FD15⟩ : ∃ fd, FunD K "_law_kinds" "_law_kinds" (defArgs sKinds) (defBody sKinds) (defScope sKinds) [] [] (He.ga K "_law_kinds") fd := c.def_ 14
  have F15 := fun_of FD15
  have m15 := He.glo_ok X G (c.fact 14 (f := fun K => (He.Fa.glo "_law_kinds").ok K) rfl)
  have b15 := F15.binds (ps := ["e"]) fun _ _ _ _ _ _ us hl => match us, hl with | [_], _ => rfl
  obtain ⟨fd16, FD16⟩ : ∃ fd, FunD K "_law_keys" "_law_keys" (defArgs sKeys) (defBody sKeys) (defScope sKeys) [] [] (He.ga K "_law_keys") fd := c.def_ 15
  have F16 := fun_of FD16
  have m16 := He.glo_ok X G (c.fact 15 (f := fun K => (He.Fa.glo "_law_keys").ok K) rfl)
  have b16 := F16.binds (ps := ["bag"]) fun _ _ _ _ _ _ us hl => match us, hl with | [_], _ => rfl
  obtain ⟨fd17, FD17⟩ : ∃ fd, FunD K "_law_table" "_law_table" (defArgs sTab) (defBody sTab) (defScope sTab) [] [] (He.ga K "_law_table") fd := c.def_ 16
  have F17 := fun_of FD17
  have m17 := He.glo_ok X G (c.fact 16 (f := fun K => (He.Fa.glo "_law_table").ok K) rfl)
  have b17 := F17.binds (ps := ["bag", "keys"]) fun _ _ _ _ _ _ us hl => match us, hl with | [_, _], _ => rfl
  obtain ⟨fd18, FD18⟩ : ∃ fd, FunD K "_law_changes" "_law_changes" (defArgs sLCh) (defBody sLCh) (defScope sLCh) [] [] (He.ga K "_law_changes") fd := c.def_ 17
  have F18 := fun_of FD18
  have m18 := He.glo_ok X G (c.fact 17 (f := fun K => (He.Fa.glo "_law_changes").ok K) rfl)
  have b18 := F18.binds (ps := ["bag", "keys", "most"]) fun _ _ _ _ _ _ us hl => match us, hl with | [_, _, _], _ => rfl
  obtain ⟨fd19, FD19⟩ : ∃ fd, FunD K "_law_stretch" "_law_stretch" (defArgs sStr) (defBody sStr) (defScope sStr) [] [] (He.ga K "_law_stretch") fd := c.def_ 18
  have F19 := fun_of FD19
  have m19 := He.glo_ok X G (c.fact 18 (f := fun K => (He.Fa.glo "_law_stretch").ok K) rfl)
  have b19 := F19.binds (ps := ["bag", "keys"]) fun _ _ _ _ _ _ us hl => match us, hl with | [_, _], _ => rfl
  obtain ⟨fd20, FD20⟩ : ∃ fd, FunD K "_law_spans" "_law_spans" (defArgs sSpans) (defBody sSpans) (defScope sSpans) [] [] (He.ga K "_law_spans") fd := c.def_ 19
  have F20 := fun_of FD20
  have m20 := He.glo_ok X G (c.fact 19 (f := fun K => (He.Fa.glo "_law_spans").ok K) rfl)
  have b20 := F20.binds (ps := ["keys"]) fun _ _ _ _ _ _ us hl => match us, hl with | [_], _ => rfl
  obtain ⟨fd21, FD21⟩ : ∃ fd, FunD K "_law_field" "_law_field" (defArgs sField) (defBody sField) (defScope sField) [] [] (He.ga K "_law_field") fd := c.def_ 20
  have F21 := fun_of FD21
  have m21 := He.glo_ok X G (c.fact 20 (f := fun K => (He.Fa.glo "_law_field").ok K) rfl)
  have b21 := F21.binds (ps := ["e"]) fun _ _ _ _ _ _ us hl => match us, hl with | [_], _ => rfl
  obtain ⟨fd22, FD22⟩ : ∃ fd, FunD K "_law_taker_tried" "_law_taker_tried" (defArgs sTtr) (defBody sTtr) (defScope sTtr) [] [] (He.ga K "_law_taker_tried") fd := c.def_ 21
  have F22 := fun_of FD22
  have m22 := He.glo_ok X G (c.fact 21 (f := fun K => (He.Fa.glo "_law_taker_tried").ok K) rfl)
  have b22 := F22.binds (ps := ["taker", "step"]) fun _ _ _ _ _ _ us hl => match us, hl with | [_, _], _ => rfl
  obtain ⟨fd23, FD23⟩ : ∃ fd, FunD K "_law_within" "_law_within" (defArgs sWithin) (defBody sWithin) (defScope sWithin) [] [] (He.ga K "_law_within") fd := c.def_ 22
  have F23 := fun_of FD23
  have m23 := He.glo_ok X G (c.fact 22 (f := fun K => (He.Fa.glo "_law_within").ok K) rfl)
  have b23 := F23.binds (ps := ["thing", "least", "most"]) fun _ _ _ _ _ _ us hl => match us, hl with | [_, _, _], _ => rfl
  obtain ⟨fd24, FD24⟩ : ∃ fd, FunD K "_law_entry" "_law_entry" (defArgs sLEn) (defBody sLEn) (defScope sLEn) [] [] (He.ga K "_law_entry") fd := c.def_ 23
  have F24 := fun_of FD24
  have m24 := He.glo_ok X G (c.fact 23 (f := fun K => (He.Fa.glo "_law_entry").ok K) rfl)
  have b24 := F24.binds (ps := ["bag", "keys"]) fun _ _ _ _ _ _ us hl => match us, hl with | [_, _], _ => rfl
  obtain ⟨fd25, FD25⟩ : ∃ fd, FunD K "_law_is_pair" "_law_is_pair" (defArgs sPair) (defBody sPair) (defScope sPair) [] [] (He.ga K "_law_is_pair") fd := c.def_ 24
  have F25 := fun_of FD25
  have m25 := He.glo_ok X G (c.fact 24 (f := fun K => (He.Fa.glo "_law_is_pair").ok K) rfl)
  have b25 := F25.binds (ps := ["thing"]) fun _ _ _ _ _ _ us hl => match us, hl with | [_], _ => rfl
  obtain ⟨fd26, FD26⟩ : ∃ fd, FunD K "_law_are_pairs" "_law_are_pairs" (defArgs sArp) (defBody sArp) (defScope sArp) [] [] (He.ga K "_law_are_pairs") fd := c.def_ 25
  have F26 := fun_of FD26
  have m26 := He.glo_ok X G (c.fact 25 (f := fun K => (He.Fa.glo "_law_are_pairs").ok K) rfl)
  have b26 := F26.binds (ps := ["thing"]) fun _ _ _ _ _ _ us hl => match us, hl with | [_], _ => rfl
  obtain ⟨fd27, FD27⟩ : ∃ fd, FunD K "_law_done" "_law_done" (defArgs sDone) (defBody sDone) (defScope sDone) [] [] (He.ga K "_law_done") fd := c.def_ 26
  have F27 := fun_of FD27
  have m27 := He.glo_ok X G (c.fact 26 (f := fun K => (He.Fa.glo "_law_done").ok K) rfl)
  have b27 := F27.binds (ps := ["rows", "changes"]) fun _ _ _ _ _ _ us hl => match us, hl with | [_, _], _ => rfl
  obtain ⟨fd28, FD28⟩ : ∃ fd, FunD K "_law_taker_new" "_law_taker_new" (defArgs sTn) (defBody sTn) (defScope sTn) [] [] (He.ga K "_law_taker_new") fd := c.def_ 27
  have F28 := fun_of FD28
  have m28 := He.glo_ok X G (c.fact 27 (f := fun K => (He.Fa.glo "_law_taker_new").ok K) rfl)
  have b28 := F28.binds (ps := ["life", "sav1"]) fun _ _ _ _ _ _ us hl => match us, hl with | [_, _], _ => rfl
  obtain ⟨fd29, FD29⟩ : ∃ fd, FunD K "_law_taker_takes" "_law_taker_takes" (defArgs sTt) (defBody sTt) (defScope sTt) [] [] (He.ga K "_law_taker_takes") fd := c.def_ 28
  have F29 := fun_of FD29
  have m29 := He.glo_ok X G (c.fact 28 (f := fun K => (He.Fa.glo "_law_taker_takes").ok K) rfl)
  have b29 := F29.binds (ps := ["own", "entry"]) fun _ _ _ _ _ _ us hl => match us, hl with | [_, _], _ => rfl
  obtain ⟨fd30, FD30⟩ : ∃ fd, FunD K "_law_taker_copies" "_law_taker_copies" (defArgs sOc) (defBody sOc) (defScope sOc) [] [] (He.ga K "_law_taker_copies") fd := c.def_ 29
  have F30 := fun_of FD30
  have m30 := He.glo_ok X G (c.fact 29 (f := fun K => (He.Fa.glo "_law_taker_copies").ok K) rfl)
  have b30 := F30.binds (ps := ["own", "stretch", "rows"]) fun _ _ _ _ _ _ us hl => match us, hl with | [_, _, _], _ => rfl
  obtain ⟨fd31, FD31⟩ : ∃ fd, FunD K "_law_taker_due" "_law_taker_due" (defArgs sDu) (defBody sDu) (defScope sDu) [] [] (He.ga K "_law_taker_due") fd := c.def_ 30
  have F31 := fun_of FD31
  have m31 := He.glo_ok X G (c.fact 30 (f := fun K => (He.Fa.glo "_law_taker_due").ok K) rfl)
  have b31 := F31.binds (ps := ["own", "step"]) fun _ _ _ _ _ _ us hl => match us, hl with | [_, _], _ => rfl
  obtain ⟨fd32, FD32⟩ : ∃ fd, FunD K "_law_taker_step" "_law_taker_step" (defArgs sStep) (defBody sStep) (defScope sStep) [] [] (He.ga K "_law_taker_step") fd := c.def_ 31
  have F32 := fun_of FD32
  have m32 := He.glo_ok X G (c.fact 31 (f := fun K => (He.Fa.glo "_law_taker_step").ok K) rfl)
  have b32 := F32.binds (ps := ["bag", "own", "keys"]) fun _ _ _ _ _ _ us hl => match us, hl with | [_, _, _], _ => rfl
  obtain ⟨fd33, FD33⟩ : ∃ fd, FunD K "_law_pairs" "_law_pairs" (defArgs sPairs) (defBody sPairs) (defScope sPairs) [] [] (He.ga K "_law_pairs") fd := c.def_ 32
  have F33 := fun_of FD33
  have m33 := He.glo_ok X G (c.fact 32 (f := fun K => (He.Fa.glo "_law_pairs").ok K) rfl)
  have b33 := F33.binds (ps := ["rows"]) fun _ _ _ _ _ _ us hl => match us, hl with | [_], _ => rfl
  obtain ⟨fd34, FD34⟩ : ∃ fd, FunD K "_law_taker_so" "_law_taker_so" (defArgs sTs) (defBody sTs) (defScope sTs) [] [] (He.ga K "_law_taker_so") fd := c.def_ 33
  have F34 := fun_of FD34
  have m34 := He.glo_ok X G (c.fact 33 (f := fun K => (He.Fa.glo "_law_taker_so").ok K) rfl)
  have b34 := F34.binds (ps := ["taker", "own"]) fun _ _ _ _ _ _ us hl => match us, hl with | [_, _], _ => rfl
  obtain ⟨fd35, FD35⟩ : ∃ fd, FunD K "_law_saved" "_law_saved" (defArgs sSv) (defBody sSv) (defScope sSv) [] [] (He.ga K "_law_saved") fd := c.def_ 34
  have F35 := fun_of FD35
  have m35 := He.glo_ok X G (c.fact 34 (f := fun K => (He.Fa.glo "_law_saved").ok K) rfl)
  have b35 := F35.binds (ps := ["bag", "keys"]) fun _ _ _ _ _ _ us hl => match us, hl with | [_, _], _ => rfl
  obtain ⟨fd36, FD36⟩ : ∃ fd, FunD K "law" "law" (defArgs sLaw) (defBody sLaw) (defScope sLaw) [] [] (He.ga K "law") fd := c.def_ 35
  have F36 := fun_of FD36
  have m36 := He.glo_ok X G (c.fact 35 (f := fun K => (He.Fa.glo "law").ok K) rfl)
  have aCK := He.glo_ok X G (c.fact 36 (f := fun K => (He.Fa.glo "Taker").ok K) rfl)
  obtain ⟨fdKIs, FDKIs⟩ : ∃ fd, FunD K "__init__" "Taker.__init__" (defArgs mInit) (defBody mInit) (defScope mInit) [] [("place", .int 0)] (He.ma K (He.ga K "Taker") "__init__") fd := c.def_ 36
  have FKIs := fun_of FDKIs
  have mkTK := He.mkr_ok (c.fact 38 (f := fun K => (He.Fa.mkr "Taker").ok K) rfl)
  obtain ⟨fdKBe, FDKBe⟩ : ∃ fd, FunD K "begin_with" "Taker.begin_with" (defArgs mBegin) (defBody mBegin) (defScope mBegin) [] [] (He.ma K (He.ga K "Taker") "begin_with") fd := c.def_ 37
  have FKBe := fun_of FDKBe
  have bKBe := FKBe.binds (ps := ["self", "saved"]) fun _ _ _ _ _ _ us hl => match us, hl with | [_, _], _ => rfl
  have qKBe := He.meth_ok (c.fact 39 (f := fun K => (He.Fa.meth "Taker" "begin_with").ok K) rfl)
  obtain ⟨fdKTk, FDKTk⟩ : ∃ fd, FunD K "take" "Taker.take" (defArgs mTake) (defBody mTake) (defScope mTake) [] [] (He.ma K (He.ga K "Taker") "take") fd := c.def_ 38
  have FKTk := fun_of FDKTk
  have bKTk := FKTk.binds (ps := ["self", "entry"]) fun _ _ _ _ _ _ us hl => match us, hl with | [_, _], _ => rfl
  have qKTk := He.meth_ok (c.fact 40 (f := fun K => (He.Fa.meth "Taker" "take").ok K) rfl)
  obtain ⟨fdKGr, FDKGr⟩ : ∃ fd, FunD K "take_group" "Taker.take_group" (defArgs mGroup) (defBody mGroup) (defScope mGroup) [] [] (He.ma K (He.ga K "Taker") "take_group") fd := c.def_ 39
  have FKGr := fun_of FDKGr
  have bKGr := FKGr.binds (ps := ["self", "changes"]) fun _ _ _ _ _ _ us hl => match us, hl with | [_, _], _ => rfl
  have qKGr := He.meth_ok (c.fact 41 (f := fun K => (He.Fa.meth "Taker" "take_group").ok K) rfl)
  obtain ⟨fdKMk, FDKMk⟩ : ∃ fd, FunD K "take_mark" "Taker.take_mark" (defArgs mMark) (defBody mMark) (defScope mMark) [] [] (He.ma K (He.ga K "Taker") "take_mark") fd := c.def_ 40
  have FKMk := fun_of FDKMk
  have bKMk := FKMk.binds (ps := ["self", "word", "number"]) fun _ _ _ _ _ _ us hl => match us, hl with | [_, _, _], _ => rfl
  have qKMk := He.meth_ok (c.fact 42 (f := fun K => (He.Fa.meth "Taker" "take_mark").ok K) rfl)
  obtain ⟨fdKCp, FDKCp⟩ : ∃ fd, FunD K "copy_piece" "Taker.copy_piece" (defArgs mCopy) (defBody mCopy) (defScope mCopy) [] [] (He.ma K (He.ga K "Taker") "copy_piece") fd := c.def_ 41
  have FKCp := fun_of FDKCp
  have bKCp := FKCp.binds (ps := ["self", "piece"]) fun _ _ _ _ _ _ us hl => match us, hl with | [_, _], _ => rfl
  have qKCp := He.meth_ok (c.fact 43 (f := fun K => (He.Fa.meth "Taker" "copy_piece").ok K) rfl)
  obtain ⟨fdKGv, FDKGv⟩ : ∃ fd, FunD K "give_out" "Taker.give_out" (defArgs mGive) (defBody mGive) (defScope mGive) [] [] (He.ma K (He.ga K "Taker") "give_out") fd := c.def_ 42
  have FKGv := fun_of FDKGv
  have bKGv := FKGv.binds (ps := ["self", "word", "key"]) fun _ _ _ _ _ _ us hl => match us, hl with | [_, _, _], _ => rfl
  have qKGv := He.meth_ok (c.fact 44 (f := fun K => (He.Fa.meth "Taker" "give_out").ok K) rfl)
  obtain ⟨fdKAk, FDKAk⟩ : ∃ fd, FunD K "ask" "Taker.ask" (defArgs mAsk) (defBody mAsk) (defScope mAsk) [] [] (He.ma K (He.ga K "Taker") "ask") fd := c.def_ 43
  have FKAk := fun_of FDKAk
  have bKAk := FKAk.binds (ps := ["self", "number", "first", "last"]) fun _ _ _ _ _ _ us hl => match us, hl with | [_, _, _, _], _ => rfl
  have qKAk := He.meth_ok (c.fact 45 (f := fun K => (He.Fa.meth "Taker" "ask").ok K) rfl)
  obtain ⟨fdKAn, FDKAn⟩ : ∃ fd, FunD K "answer" "Taker.answer" (defArgs mAns) (defBody mAns) (defScope mAns) [] [] (He.ma K (He.ga K "Taker") "answer") fd := c.def_ 44
  have FKAn := fun_of FDKAn
  have bKAn := FKAn.binds (ps := ["self", "number", "rows"]) fun _ _ _ _ _ _ us hl => match us, hl with | [_, _, _], _ => rfl
  have qKAn := He.meth_ok (c.fact 46 (f := fun K => (He.Fa.meth "Taker" "answer").ok K) rfl)
  obtain ⟨fdKGu, FDKGu⟩ : ∃ fd, FunD K "give_up" "Taker.give_up" (defArgs mGup) (defBody mGup) (defScope mGup) [] [] (He.ma K (He.ga K "Taker") "give_up") fd := c.def_ 45
  have FKGu := fun_of FDKGu
  have bKGu := FKGu.binds (ps := ["self", "number"]) fun _ _ _ _ _ _ us hl => match us, hl with | [_, _], _ => rfl
  have qKGu := He.meth_ok (c.fact 47 (f := fun K => (He.Fa.meth "Taker" "give_up").ok K) rfl)
  obtain ⟨fdKPl, FDKPl⟩ : ∃ fd, FunD K "place" "Taker.place" (defArgs mPlace) (defBody mPlace) (defScope mPlace) [] [] (He.ma K (He.ga K "Taker") "place") fd := c.def_ 46
  have FKPl := fun_of FDKPl
  have bKPl := FKPl.binds (ps := ["self"]) fun _ _ _ _ _ _ us hl => match us, hl with | [_], _ => rfl
  have qKPl := He.meth_ok (c.fact 48 (f := fun K => (He.Fa.meth "Taker" "place").ok K) rfl)
  obtain ⟨fdKRo, FDKRo⟩ : ∃ fd, FunD K "rows" "Taker.rows" (defArgs mRows) (defBody mRows) (defScope mRows) [] [] (He.ma K (He.ga K "Taker") "rows") fd := c.def_ 47
  have FKRo := fun_of FDKRo
  have bKRo := FKRo.binds (ps := ["self"]) fun _ _ _ _ _ _ us hl => match us, hl with | [_], _ => rfl
  have qKRo := He.meth_ok (c.fact 49 (f := fun K => (He.Fa.meth "Taker" "rows").ok K) rfl)
  obtain ⟨fdKSu, FDKSu⟩ : ∃ fd, FunD K "sure" "Taker.sure" (defArgs mSure) (defBody mSure) (defScope mSure) [] [] (He.ma K (He.ga K "Taker") "sure") fd := c.def_ 48
  have FKSu := fun_of FDKSu
  have bKSu := FKSu.binds (ps := ["self"]) fun _ _ _ _ _ _ us hl => match us, hl with | [_], _ => rfl
  have qKSu := He.meth_ok (c.fact 50 (f := fun K => (He.Fa.meth "Taker" "sure").ok K) rfl)
  obtain ⟨fdKEv, FDKEv⟩ : ∃ fd, FunD K "events" "Taker.events" (defArgs mEvents) (defBody mEvents) (defScope mEvents) [] [] (He.ma K (He.ga K "Taker") "events") fd := c.def_ 49
  have FKEv := fun_of FDKEv
  have bKEv := FKEv.binds (ps := ["self"]) fun _ _ _ _ _ _ us hl => match us, hl with | [_], _ => rfl
  have qKEv := He.meth_ok (c.fact 51 (f := fun K => (He.Fa.meth "Taker" "events").ok K) rfl)
  obtain ⟨fdKAd, FDKAd⟩ : ∃ fd, FunD K "asked" "Taker.asked" (defArgs mAsked) (defBody mAsked) (defScope mAsked) [] [] (He.ma K (He.ga K "Taker") "asked") fd := c.def_ 50
  have FKAd := fun_of FDKAd
  have bKAd := FKAd.binds (ps := ["self"]) fun _ _ _ _ _ _ us hl => match us, hl with | [_], _ => rfl
  have qKAd := He.meth_ok (c.fact 52 (f := fun K => (He.Fa.meth "Taker" "asked").ok K) rfl)
  obtain ⟨fdKSv, FDKSv⟩ : ∃ fd, FunD K "saved" "Taker.saved" (defArgs mSaved) (defBody mSaved) (defScope mSaved) [] [] (He.ma K (He.ga K "Taker") "saved") fd := c.def_ 51
  have FKSv := fun_of FDKSv
  have bKSv := FKSv.binds (ps := ["self"]) fun _ _ _ _ _ _ us hl => match us, hl with | [_], _ => rfl
  have qKSv := He.meth_ok (c.fact 53 (f := fun K => (He.Fa.meth "Taker" "saved").ok K) rfl)
  obtain ⟨fdKAp, FDKAp⟩ : ∃ fd, FunD K "asked_piece" "Taker.asked_piece" (defArgs mApc) (defBody mApc) (defScope mApc) [] [] (He.ma K (He.ga K "Taker") "asked_piece") fd := c.def_ 52
  have FKAp := fun_of FDKAp
  have bKAp := FKAp.binds (ps := ["self", "number"]) fun _ _ _ _ _ _ us hl => match us, hl with | [_, _], _ => rfl
  have qKAp := He.meth_ok (c.fact 54 (f := fun K => (He.Fa.meth "Taker" "asked_piece").ok K) rfl)
  obtain ⟨fdKLi, FDKLi⟩ : ∃ fd, FunD K "life" "Taker.life" (defArgs mLife) (defBody mLife) (defScope mLife) [] [] (He.ma K (He.ga K "Taker") "life") fd := c.def_ 53
  have FKLi := fun_of FDKLi
  have bKLi := FKLi.binds (ps := ["self"]) fun _ _ _ _ _ _ us hl => match us, hl with | [_], _ => rfl
  have qKLi := He.meth_ok (c.fact 55 (f := fun K => (He.Fa.meth "Taker" "life").ok K) rfl)
  obtain ⟨fdKLn, FDKLn⟩ : ∃ fd, FunD K "__len__" "Taker.__len__" (defArgs mLen) (defBody mLen) (defScope mLen) [] [] (He.ma K (He.ga K "Taker") "__len__") fd := c.def_ 54
  have FKLn := fun_of FDKLn
  have bKLn := FKLn.binds (ps := ["self"]) fun _ _ _ _ _ _ us hl => match us, hl with | [_], _ => rfl
  have qKLn := He.meth_ok (c.fact 56 (f := fun K => (He.Fa.meth "Taker" "__len__").ok K) rfl)
  obtain ⟨fdKEq, FDKEq⟩ : ∃ fd, FunD K "__eq__" "Taker.__eq__" (defArgs mEq) (defBody mEq) (defScope mEq) [] [] (He.ma K (He.ga K "Taker") "__eq__") fd := c.def_ 55
  have FKEq := fun_of FDKEq
  have bKEq := FKEq.binds (ps := ["self", "other"]) fun _ _ _ _ _ _ us hl => match us, hl with | [_, _], _ => rfl
  have qKEq := He.meth_ok (c.fact 57 (f := fun K => (He.Fa.meth "Taker" "__eq__").ok K) rfl)
  have TK : Txt K mg (He.ga K "Taker") := ⟨He.cls_ok (c.fact 37 (f := fun K => (He.Fa.cls "Taker").ok K) rfl), He.noat_ok (c.fact 58 (f := fun K => (He.Fa.noat "Taker" "own_life").ok K) rfl), He.noat_ok (c.fact 59 (f := fun K => (He.Fa.noat "Taker" "at").ok K) rfl), He.noat_ok (c.fact 60 (f := fun K => (He.Fa.noat "Taker" "known").ok K) rfl), He.noat_ok (c.fact 61 (f := fun K => (He.Fa.noat "Taker" "given").ok K) rfl), He.noat_ok (c.fact 62 (f := fun K => (He.Fa.noat "Taker" "pieces").ok K) rfl), He.noat_ok (c.fact 63 (f := fun K => (He.Fa.noat "Taker" "numbers").ok K) rfl), aCK⟩
  have aCC := He.glo_ok X G (c.fact 64 (f := fun K => (He.Fa.glo "Piece").ok K) rfl)
  obtain ⟨fdCIn, FDCIn⟩ : ∃ fd, FunD K "__init__" "Piece.__init__" (defArgs mPc) (defBody mPc) (defScope mPc) [] [] (He.ma K (He.ga K "Piece") "__init__") fd := c.def_ 56
  have FCIn := fun_of FDCIn
  have bCIn := FCIn.binds (ps := ["self", "first", "last"]) fun _ _ _ _ _ _ us hl => match us, hl with | [_, _, _], _ => rfl
  have mkTC := He.mkr_ok (c.fact 66 (f := fun K => (He.Fa.mkr "Piece").ok K) rfl)
  have TC : TxtP K mg (He.ga K "Piece") := ⟨He.cls_ok (c.fact 65 (f := fun K => (He.Fa.cls "Piece").ok K) rfl), He.noat_ok (c.fact 67 (f := fun K => (He.Fa.noat "Piece" "stretch").ok K) rfl), He.noat_ok (c.fact 68 (f := fun K => (He.Fa.noat "Piece" "under_way").ok K) rfl), He.noat_ok (c.fact 69 (f := fun K => (He.Fa.noat "Piece" "came").ok K) rfl), aCC⟩
  have zET := He.ba (c.fact 72 (f := fun K => eqE K "Twice" && excB K (He.ga K "Twice") (rtF .twice)) rfl)
  have ET : ExC K mg "Twice" (He.ga K "Twice") (rtF .twice) := excB_ok X G (He.eqO_ok zET.1) zET.2
  have d0T : OwnE0 K mg "Twice" (He.ga K "Twice") He.veBase := by
    have z := He.exc_ok (c.fact 71 (f := fun K => (He.Fa.exc "Twice").ok K) rfl)
    exact ⟨z.1, He.glo_ok X G (c.fact 70 (f := fun K => (He.Fa.glo "Twice").ok K) rfl), z.2.1, z.2.2.1, z.2.2.2⟩
  have zES := He.ba (c.fact 75 (f := fun K => eqE K "NoStretch" && excB K (He.ga K "NoStretch") (rtF .noStretch)) rfl)
  have ES : ExC K mg "NoStretch" (He.ga K "NoStretch") (rtF .noStretch) := excB_ok X G (He.eqO_ok zES.1) zES.2
  have d0S : OwnE0 K mg "NoStretch" (He.ga K "NoStretch") He.veBase := by
    have z := He.exc_ok (c.fact 74 (f := fun K => (He.Fa.exc "NoStretch").ok K) rfl)
    exact ⟨z.1, He.glo_ok X G (c.fact 73 (f := fun K => (He.Fa.glo "NoStretch").ok K) rfl), z.2.1, z.2.2.1, z.2.2.2⟩
  have zER := He.ba (c.fact 78 (f := fun K => eqE K "NoRows" && excB K (He.ga K "NoRows") (rtF .noRows)) rfl)
  have ER : ExC K mg "NoRows" (He.ga K "NoRows") (rtF .noRows) := excB_ok X G (He.eqO_ok zER.1) zER.2
  have d0R : OwnE0 K mg "NoRows" (He.ga K "NoRows") He.veBase := by
    have z := He.exc_ok (c.fact 77 (f := fun K => (He.Fa.exc "NoRows").ok K) rfl)
    exact ⟨z.1, He.glo_ok X G (c.fact 76 (f := fun K => (He.Fa.glo "NoRows").ok K) rfl), z.2.1, z.2.2.1, z.2.2.2⟩
  obtain ⟨IW, WW, AW, xoW⟩ := xc_ok (P := P) (fld := "number") (fl := (rtF .waits)) X G xP (c.exc 0) (by have h := c.fact 79 (f := fun K => xcB K fileN "Waits" "number" (rtF .waits)) rfl; rw [← xFile] at h; exact h)
  have EW : ExC K mg "Waits" (He.ga K "Waits") (rtF .waits) := xoW.E
  have xNW : PySem.W.findIn K (.ref (He.ga K "Waits")) "number" = some none := xoW.no
  obtain ⟨IA, WA, AA, xoA⟩ := xc_ok (P := P) (fld := "number") (fl := (rtF .notAsked)) X G xP (c.exc 1) (by have h := c.fact 80 (f := fun K => xcB K fileN "NotAsked" "number" (rtF .notAsked)) rfl; rw [← xFile] at h; exact h)
  have EA : ExC K mg "NotAsked" (He.ga K "NotAsked") (rtF .notAsked) := xoA.E
  have xNA : PySem.W.findIn K (.ref (He.ga K "NotAsked")) "number" = some none := xoA.no
  have mTE := He.glo_ok X G (c.fact 81 (f := fun K => (He.Fa.glo "TideError").ok K) rfl)
  have eTT := He.exm_ok (c.fact 82 (f := fun K => (He.Fa.exm "Twice" "TideError" true).ok K) rfl)
  have eTS := He.exm_ok (c.fact 83 (f := fun K => (He.Fa.exm "NoStretch" "TideError" true).ok K) rfl)
  have eTR := He.exm_ok (c.fact 84 (f := fun K => (He.Fa.exm "NoRows" "TideError" true).ok K) rfl)
  have eTW := He.exm_ok (c.fact 85 (f := fun K => (He.Fa.exm "Waits" "TideError" true).ok K) rfl)
  have eTA := He.exm_ok (c.fact 86 (f := fun K => (He.Fa.exm "NotAsked" "TideError" true).ok K) rfl)
  have N : Names mg := ⟨He.free_ok X G (c.fact 87 (f := fun K => (He.Fa.free "isinstance").ok K) rfl), He.free_ok X G (c.fact 88 (f := fun K => (He.Fa.free "int").ok K) rfl), He.free_ok X G (c.fact 89 (f := fun K => (He.Fa.free "bool").ok K) rfl), He.free_ok X G (c.fact 90 (f := fun K => (He.Fa.free "tuple").ok K) rfl), He.free_ok X G (c.fact 91 (f := fun K => (He.Fa.free "list").ok K) rfl), He.free_ok X G (c.fact 92 (f := fun K => (He.Fa.free "str").ok K) rfl), He.free_ok X G (c.fact 93 (f := fun K => (He.Fa.free "len").ok K) rfl), He.free_ok X G (c.fact 94 (f := fun K => (He.Fa.free "set").ok K) rfl), He.free_ok X G (c.fact 95 (f := fun K => (He.Fa.free "sorted").ok K) rfl), He.free_ok X G (c.fact 96 (f := fun K => (He.Fa.free "range").ok K) rfl), He.free_ok X G (c.fact 97 (f := fun K => (He.Fa.free "abs").ok K) rfl), He.free_ok X G (c.fact 98 (f := fun K => (He.Fa.free "min").ok K) rfl), He.free_ok X G (c.fact 99 (f := fun K => (He.Fa.free "max").ok K) rfl), He.free_ok X G (c.fact 100 (f := fun K => (He.Fa.free "dict").ok K) rfl), He.free_ok X G (c.fact 101 (f := fun K => (He.Fa.free "all").ok K) rfl), He.free_ok X G (c.fact 102 (f := fun K => (He.Fa.free "ValueError").ok K) rfl), He.int_ok X G (c.fact 103 (f := fun K => (He.Fa.int "KEYS" 1000).ok K) rfl), He.int_ok X G (c.fact 104 (f := fun K => (He.Fa.int "WORTHS" 1000).ok K) rfl)⟩
  have kit : KitC K (He.ga K "Taker") := kitB_ok (c.fact 105 (f := fun K => kitB K (He.ga K "Taker")) rfl)
  have e := hfa.symm.trans m36
  cases e
  have bl := FunD.bindsA (ps := ["script"]) FD36 fun _ _ _ _ _ _ us hl => match us, hl with | [_], _ => rfl
  refine ⟨fd36, fun s v => bl s [v] rfl, fun base _ _ => ?_⟩
  have dXW : OwnE P w K mg base "Waits" (He.ga K "Waits") ["self", "number"] 1 (spX1 (He.ga K "Waits") "number") := by
    obtain ⟨oc, od, sl, kv, dc, pm, an, ct, lk⟩ := xoW.F
    exact ⟨_, _, ok_XW (k := 0) lk xoW.cd xoW.T xoW.cW xoW.no xoW.Z, xoW.T, xoW.iC, xoW.tI, xoW.mgC, .all fun us hl => match us, hl with | [_, _], _ => rfl⟩
  have dXA : OwnE P w K mg base "NotAsked" (He.ga K "NotAsked") ["self", "number"] 1 (spX1 (He.ga K "NotAsked") "number") := by
    obtain ⟨oc, od, sl, kv, dc, pm, an, ct, lk⟩ := xoA.F
    exact ⟨_, _, ok_XA (k := 0) lk xoA.cd xoA.T xoA.cW xoA.no xoA.Z, xoA.T, xoA.iC, xoA.tI, xoA.mgC, .all fun us hl => match us, hl with | [_, _], _ => rfl⟩
  have dNum : Own P w K mg base "is_number" ["thing"] 1 (spTold K isNum) := ⟨_, _, ok_num (k := 0) F1 N, m1, F1.kp, b1⟩
  have dKey : Own P w K mg base "is_key" ["thing"] 2 (spTold K isKey) := ⟨_, _, ok_key F2 N dNum, m2, F2.kp, b2⟩
  have dWor : Own P w K mg base "is_worth" ["thing"] 2 (spTold K isKey) := ⟨_, _, ok_worth F3 N dNum, m3, F3.kp, b3⟩
  have dRow : Own P w K mg base "is_row" ["thing"] 3 (spTold K isRow) := ⟨_, _, ok_row F4 N dKey dWor, m4, F4.kp, b4⟩
  have dRows : Own P w K mg base "is_rows" ["thing", "first", "last"] 4 (spRowsT K) := ⟨_, _, ok_rows F5 N dRow, m5, F5.kp, b5⟩
  have dRi : Own P w K mg base "rising" ["rows"] 1 (spRising K) := ⟨_, _, ok_rising (k := 0) F6 N, m6, F6.kp, b6⟩
  have dSt : Own P w K mg base "is_stretch" ["first", "last"] 1 spStr1 := ⟨_, _, ok_str1 (k := 0) F7 N, m7, F7.kp, b7⟩
  have dSo : Own P w K mg base "stretches_of" ["keys"] 1 (spSo K) := ⟨_, _, ok_so (k := 0) F8 N, m8, F8.kp, b8⟩
  have dLcg : Own P w K mg base "learn_change" ["known", "change"] 1 (spLc K) := ⟨_, _, ok_lc (k := 0) F9, m9, F9.kp, b9⟩
  have dLp : Own P w K mg base "learn_piece" ["known", "stretch", "rows"] 1 (spLp K) := ⟨_, _, ok_lp (k := 0) F10 N, m10, F10.kp, b10⟩
  have dKr : Own P w K mg base "known_rows" ["known"] 2 (spKr K) := ⟨_, _, ok_kr (k := 1) F11 N dRi (by decide), m11, F11.kp, b11⟩
  have dT : Own P w K mg base "_law_take" ["bag", "many"] 1 spTake := ⟨_, _, ok_take (k := 0) F13, m13, F13.kp, b13⟩
  have dB : Own P w K mg base "_law_bag" ["script", "k"] 1 (spBag K) := ⟨_, _, ok_bag (k := 0) F12 N, m12, F12.kp, b12⟩
  have dOf : Own P w K mg base "_law_of" ["bag", "some"] 2 spOf := ⟨_, _, ok_of (k := 1) (kO := 0) (kC := 0) F14 N dT (by decide), m14, F14.kp, b14⟩
  have dKs : Own P w K mg base "_law_keys" ["bag"] 2 spKeysR := ⟨_, _, ok_keys F16 N dT, m16, F16.kp, b16⟩
  have dTab : Own P w K mg base "_law_table" ["bag", "keys"] 2 (spTabR K) := ⟨_, _, ok_tab F17 N dT, m17, F17.kp, b17⟩
  have dLC : Own P w K mg base "_law_changes" ["bag", "keys", "most"] 3 (spChsL K) := ⟨_, _, ok_chs (k := 2) (kC := 0) F18 N dT (by decide) dOf (by decide), m18, F18.kp, b18⟩
  have dStr : Own P w K mg base "_law_stretch" ["bag", "keys"] 3 (spStr K) := ⟨_, _, ok_str (k := 2) F19 N dT (by decide) dOf (by decide), m19, F19.kp, b19⟩
  have dSp : Own P w K mg base "_law_spans" ["keys"] 1 (spSpans K) := ⟨_, _, ok_spans (k := 0) F20 N, m20, F20.kp, b20⟩
  have dKi : OwnP P w K mg base "_law_kinds" ["e"] 1 (spKinds K mg) := ⟨_, _, ok_kinds (k := 0) F15 N, m15, F15.kp, b15⟩
  have dFi : OwnP P w K mg base "_law_field" ["e"] 1 (spFieldN K mg) := ⟨_, _, ok_field (k := 0) F21 N, m21, F21.kp, b21⟩
  have KBe : FnOk P w K mg base CX0 2 _ _ ["self", "saved"] (spBegin K (He.ga K "Taker")) := ok_begin (k := 1) FKBe TK dLp (by decide)
  have KIs : FnOk P w K mg base CX0 3 _ _ ["self", "life", "place", "saved"] (spInitM K (He.ga K "Taker") (He.ga K "Piece")) := ok_initM (k := 2) FKIs TK KBe bKBe qKBe (by decide)
  obtain ⟨gS, bS⟩ := kb_saved FDKIs
  have KIp : FnOk P w K mg base CX0 1 _ _ ["self", "first", "last"] (spPc (He.ga K "Piece")) := ok_pc (k := 0) FCIn TC
  have KGv : FnOk P w K mg base CX0 1 _ _ ["self", "word", "key"] (spGive (He.ga K "Taker")) := ok_give (k := 0) FKGv TK
  have KGr : FnOk P w K mg base CX0 2 _ _ ["self", "changes"] (spGroup K (He.ga K "Taker")) := ok_group (k := 1) FKGr TK dLcg (by decide) KGv bKGv qKGv (by decide)
  have KCp : FnOk P w K mg base CX0 2 _ _ ["self", "piece"] (spCopy K (He.ga K "Taker") (He.ga K "Piece")) := ok_copy (k := 1) FKCp TK TC dLp (by decide) KGv bKGv qKGv (by decide)
  have KPl : FnOk P w K mg base CX0 1 _ _ ["self"] (spOne (He.ga K "Taker") fun _ a => .int a) := ok_place (k := 0) FKPl TK
  have KLi : FnOk P w K mg base CX0 1 _ _ ["self"] (spOne (He.ga K "Taker") fun l _ => .int l) := ok_life (k := 0) FKLi TK
  have KRo : FnOk P w K mg base CX0 3 _ _ ["self"] (spRows K (He.ga K "Taker")) := ok_rowsM (k := 2) FKRo TK dKr (by decide)
  have KSu : FnOk P w K mg base CX0 2 _ _ ["self"] (spSureM K (He.ga K "Taker")) := ok_sureM (k := 1) FKSu TK N dSo (by decide)
  have KEv : FnOk P w K mg base CX0 1 _ _ ["self"] (spEvents K (He.ga K "Taker")) := ok_events (k := 0) FKEv TK N
  have KAd : FnOk P w K mg base CX0 1 _ _ ["self"] (spAskedM K (He.ga K "Taker") (He.ga K "Piece")) := ok_askedM (k := 0) FKAd TK TC N
  have KSv : FnOk P w K mg base CX0 4 _ _ ["self"] (spSaved K (He.ga K "Taker")) := ok_saved (k := 3) FKSv TK KRo bKRo qKRo (by decide) KSu bKSu qKSu (by decide)
  have mMk : MethX P w K mg base (He.ga K "Taker") "take_mark" ["self", "word", "number"] 3 (spMarkX K (He.ga K "Taker") (He.ga K "Piece") (He.ga K "Waits")) := ⟨_, _, ok_markX (k := 2) FKMk TK TC dXW (by decide) KCp bKCp qKCp (by decide), bKMk, qKMk⟩
  have mTk : MethX P w K mg base (He.ga K "Taker") "take" ["self", "entry"] 4 (spTakeX K (He.ga K "Taker") (He.ga K "Piece") (He.ga K "Waits")) := ⟨_, _, ok_takeX (k := 3) FKTk TK TC KGr bKGr qKGr (by decide) mMk (by decide), bKTk, qKTk⟩
  have mAp : MethX P w K mg base (He.ga K "Taker") "asked_piece" ["self", "number"] 3 (spApcX K (He.ga K "Taker") (He.ga K "Piece") (He.ga K "NotAsked")) := ⟨_, _, ok_apcX (k := 2) FKAp TK TC dXA (by decide), bKAp, qKAp⟩
  have mGu : MethX P w K mg base (He.ga K "Taker") "give_up" ["self", "number"] 4 (spGup K (He.ga K "Taker") (He.ga K "Piece") (He.ga K "NotAsked")) := ⟨_, _, ok_gup (k := 3) FKGu TK TC mAp (by decide), bKGu, qKGu⟩
  have mAn : MethX P w K mg base (He.ga K "Taker") "answer" ["self", "number", "rows"] 5 (spAnsX K (He.ga K "Taker") (He.ga K "Piece") (He.ga K "NotAsked") (He.ga K "Twice") (He.ga K "NoRows")) := ⟨_, _, ok_ansX (k := 4) FKAn TK TC mAp (by decide) PySem.F.excBase_ValueError d0T d0R dRows (by decide), bKAn, qKAn⟩
  have mAk : MethX P w K mg base (He.ga K "Taker") "ask" ["self", "number", "first", "last"] 3 (spAskX K (He.ga K "Taker") (He.ga K "Piece") (He.ga K "Twice") (He.ga K "NoStretch")) := ⟨_, _, ok_askX (k := 2) FKAk TK TC PySem.F.excBase_ValueError d0T d0S mkTC KIp bCIn (by decide) dSt (by decide), bKAk, qKAk⟩
  have RX : RtX K mg (He.ga K "TideError") (fun r => He.ga K (rtX r)) := ⟨fun r => match r with | .twice => ET | .noStretch => ES | .noRows => ER | .waits => EW | .notAsked => EA, fun r => match r with | .twice => eTT | .noStretch => eTS | .noRows => eTR | .waits => eTW | .notAsked => eTA, fun r n h => match r, n, h with
    | .waits, _, h => by cases h; exact xNW
    | .notAsked, _, h => by cases h; exact xNA
    | .twice, _, h => by cases h
    | .noStretch, _, h => by cases h
    | .noRows, _, h => by cases h⟩
  have dTr : Own P w K mg base "_law_taker_tried" ["taker", "step"] 6 (spTtr K (He.ga K "Taker") (He.ga K "Piece")) := ⟨_, _, ok_ttr (k := 5) F22 TK mTE RX mTk (by decide) mAk (by decide) mAn (by decide) mGu (by decide) dKi (by decide) dFi (by decide), m22, F22.kp, b22⟩
  have dW : Own P w K mg base "_law_within" ["thing", "least", "most"] 1 (spWithin K) := ⟨_, _, ok_within (k := 0) F23 N, m23, F23.kp, b23⟩
  have dIp : Own P w K mg base "_law_is_pair" ["thing"] 2 (spTold K isRow) := ⟨_, _, ok_pair F25 N dW, m25, F25.kp, b25⟩
  have dAp : Own P w K mg base "_law_are_pairs" ["thing"] 3 (spToldS K arePairs) := ⟨_, _, ok_arp F26 N dIp, m26, F26.kp, b26⟩
  have dDn : Own P w K mg base "_law_done" ["rows", "changes"] 1 (spDoneL K) := ⟨_, _, ok_doneL (k := 0) F27, m27, F27.kp, b27⟩
  have dTn : Own P w K mg base "_law_taker_new" ["life", "sav1"] 1 (spTn K) := ⟨_, _, ok_tn (k := 0) F28 N, m28, F28.kp, b28⟩
  have dOc : Own P w K mg base "_law_taker_copies" ["own", "stretch", "rows"] 1 (spOc K) := ⟨_, _, ok_oc (k := 0) F30 N, m30, F30.kp, b30⟩
  have dTt : Own P w K mg base "_law_taker_takes" ["own", "entry"] 2 (spTt K) := ⟨_, _, ok_tt (k := 1) F29 dDn (by decide) dOc (by decide), m29, F29.kp, b29⟩
  have dDu : Own P w K mg base "_law_taker_due" ["own", "step"] 4 (spDu K) := ⟨_, _, ok_due (k := 3) F31 N dTt (by decide) dAp (by decide), m31, F31.kp, b31⟩
  have dOi : Own P w K mg base "_law_of" ["bag", "some"] 2 spOfI := ⟨_, _, ok_ofI (k := 1) F14 N dT (by decide), m14, F14.kp, b14⟩
  have dEn : Own P w K mg base "_law_entry" ["bag", "keys"] 4 (spEntM K) := ⟨_, _, ok_entM (k := 3) (kO := 0) F24 N dT (by decide) dLC (by decide), m24, F24.kp, b24⟩
  have dStp : Own P w K mg base "_law_taker_step" ["bag", "own", "keys"] 5 (spStp K) := ⟨_, _, ok_step (k := 4) F32 N dT (by decide) dOi (by decide) dEn (by decide) dStr (by decide) dTab (by decide), m32, F32.kp, b32⟩
  have KLn : FnOk P w K mg base CX0 4 _ _ ["self"] (spLen K (He.ga K "Taker")) := ok_len (k := 3) FKLn TK N KRo bKRo qKRo (by decide)
  have dPa : Own P w K mg base "_law_pairs" ["rows"] 1 (spPairs K) := ⟨_, _, ok_pairs (k := 0) F33 N, m33, F33.kp, b33⟩
  have dTs : Own P w K mg base "_law_taker_so" ["taker", "own"] 6 (spTs K (He.ga K "Taker") (He.ga K "Piece")) := ⟨_, _, ok_ts (k := 5) F34 TK N KLi bKLi qKLi (by decide) KPl bKPl qKPl (by decide) KRo bKRo qKRo (by decide) KSu bKSu qKSu (by decide) KSv bKSv qKSv (by decide) KAd bKAd qKAd (by decide) KEv bKEv qKEv (by decide) KLn bKLn qKLn (by decide) dPa (by decide) dSp (by decide), m34, F34.kp, b34⟩
  have KEq : FnOk P w K mg base CX0 5 _ _ ["self", "other"] (spEqM K (He.ga K "Taker") (He.ga K "Piece")) := ok_eqM (k := 4) FKEq TK N kit KSv bKSv qKSv (by decide)
  have dSv : Own P w K mg base "_law_saved" ["bag", "keys"] 4 (spSv K) := ⟨_, _, ok_sv (k := 3) F35 N dT (by decide) dStr (by decide) dTab (by decide) dSp (by decide), m35, F35.kp, b35⟩
  exact ok_law (k := 9) F36 TK N kit mkTK KIs (by decide) bS KAd bKAd qKAd (by decide) KEv bKEv qKEv (by decide) KEq bKEq qKEq (by decide) dB (by decide) dT (by decide) dKs (by decide) dSv (by decide) dTn (by decide) dStp (by decide) dDu (by decide) dTr (by decide) dTs (by decide)
abbrev R : PySem.W.OpenRow := PySem.W.OpenLaw.row PySem.Challenge.rw_tidecopy_k27_whole_several_takers
abbrev hk : PySem.W.Hook := hookM 5 hfs hfn hxs
def ob (s : PySem.W.SharedT) : AlM := obsMG 5 hfs hfn hxs (HandSHeadRun.getT s)
theorem ob_eq (s : PySem.W.SharedT) : ob s = hk.obs s.abs := obsMG_eq (HandSHeadRun.getT_eq s)
def loose : List Str := (["_wall", "TideError", "ToldError", "AskedError", "NoTable", "NoChange", "NoStretch", "NoRows", "NoName", "NoText", "NoRow", "TooMany", "Twice", "NoPlace", "NoLife", "NoReading", "Ended", "NotEnded", "Held", "Trimmed", "Waits", "NotAsked", "NoKey", "NotSure", "NoTaker", "NotOnWire", "NothingLeft", "KEYS", "WORTHS", "is_number", "is_key", "is_worth", "is_row", "is_rows", "rising", "is_stretch", "stretches_of", "learn_change", "learn_piece", "known_rows", "Piece", "Taker", "_law_bag", "_law_take", "_law_of", "_law_within", "_law_kinds", "_law_keys", "_law_table", "_law_changes", "_law_entry", "_law_is_pair", "_law_are_pairs", "_law_done", "_law_pairs", "_law_stretch", "_law_spans", "_law_field", "_law_taker_new", "_law_taker_takes", "_law_taker_copies", "_law_taker_due", "_law_taker_tried", "_law_taker_so", "_law_saved", "_law_taker_step"] : List String).map Str.ofString
end K27
set_option maxHeartbeats 0
namespace K27
open PySem L2 PyProof.Rows Tc
theorem run (w : World) : HandSHeadRun.RunEq R (PySem.W.view R.prog [72]) hk ob 20000 loose w := by
  intro os
  kernel_rfl
end K27
open PySem PySem.W PyProof.Rows
theorem PySem.Challenge.cw_tidecopy_k27_whole_several_takers_holds : PySem.Challenge.rw_tidecopy_k27_whole_several_takers.Holds := by
  w_on; o_law
  refine HandSHeadRun.head_any (r := OpenLaw.row PySem.Challenge.rw_tidecopy_k27_whole_several_takers) (q := view (OpenLaw.row PySem.Challenge.rw_tidecopy_k27_whole_several_takers).prog [72]) (H := K27.hk) (ob := K27.ob) (M := 20000) (loose := K27.loose) (d := HandSHeadRun.topDef (OpenLaw.row PySem.Challenge.rw_tidecopy_k27_whole_several_takers).prog 72) (kwd := []) K27.ob_eq
    (by kernel_rfl) (fun s => by kernel_rfl) K27.run (by kernel_rfl) (by kernel_rfl) (by kernel_rfl) (by rfl) (by first | assumption | decide +kernel) (by decide +kernel) ⟨rfl, rfl, rfl, rfl, rfl, by decide +kernel⟩ ?hw ?hc
  case hw => w_witness2
  case hc =>
    refine L2.walk_ofE (l := PySem.Challenge.rw_tidecopy_k27_whole_several_takers) (n := 63) (k := 10) (x := "script") (CX := L2.CX0) rfl (by decide) (by kernel_rfl) ⟨rfl, by decide, by decide⟩ ?F (fun _ _ _ _ z => z)
    intro w mg fa h Y G hmg0
    obtain ⟨K, KX, c⟩ := Y
    have hmg : mg ("law" : PySem.Str) = some (.ref fa) := by
      have e : (HandSHeadRun.topDef (OpenLaw.row PySem.Challenge.rw_tidecopy_k27_whole_several_takers).prog 72).name = ("law" : PySem.Str) := by kernel_rfl
      rw [← e]
      exact hmg0
    obtain ⟨fd, hb, hF⟩ := K27.all_mk (P := (PySem.Challenge.rw_tidecopy_k27_whole_several_takers).prog) (w := w) KX G hmg rfl (by kernel_rfl) c
    exact ⟨K, fd, K27.spLaw K, KX, hb, fun H a ns hl _ hS => ⟨a, ns, rfl, hS, hl, fun _ => rfl⟩, hF⟩
