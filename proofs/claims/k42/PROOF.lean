import PyProof.Rows.All
import Wide.All
import OpenK.AllK
import Wide.FinOn
import PyProof.NeKinds
import HandS.ForMost
import HandS.IsInst
import HandS.Conv
import HandS.Codes
import HandS.Evl
import HandS.Strs
import HandS.SetFor
import HandS.SortInts
import HandS.Steps
import PyProof.Rows.IntBool
import PyProof.CallStr
import PyProof.FitsInt
import PyProof.EqKinds
import HandS.Style
import HandS.TupMul
import HandS.SetBool
import HandS.DictComp
import KE.KDictPairs
import HandS.WordsDict
import HandS.Iter
import HandS.SortKw
import KE.GoesEnumKw
import HandS.More
import HandS.ExcInit
import HandS.Nested
import KE.KExcSuper
import HandS.HotCalls
import HandS.ExcField
import HandS.WordsExc
import KE.KExcIs
import HandS.FStr
import HandS.Text
import HandS.ExcInitHot
import HandS.OwnEq
import HandS.OwnIter
import HandS.Dict
import HandS.Defaults
import HandS.CallSlots
import HandS.TupAny
import HandS.Ends
import HandS.Words
import HandS.Head0
import HandS.Head1
import HandS.Head2
import HandS.HeadEnd
import HandS.HeadHook1
import HandS.HeadHook2
import KE.IntTextLaws
import PyProof.StrLawsTight
import HandS.Walk
import HandS.Deep
import HandS.StrMore
import PyProof.Rows.TmSorted
import PySem.Challenge.RW_tidecopy_k42_tables_as_texts
set_option Elab.async false
set_option linter.all false
set_option maxRecDepth 100000
namespace Tc
open PySem L2
/-- a def of the text under its name, with its promise -/
def Own (P : Program) (w : World) (K : PySem.W.Frag) (mg : Str → Option Value) (base : Heap) (x : Str) (ps : List Str) (k : Nat) (sp : Sp) : Prop :=
  ∃ (f : Addr) (fd : FuncData), FnOk P w K mg base CX0 k f fd ps sp ∧ mg x = some (.ref f) ∧ PySem.W.keepIn K (.ref f) = true ∧ Binds K fd ps []
theorem pe_own {X : Cx} {x : Str} {ps : List Str} {k j : Nat} {sp : Sp} {e : Expr} {es : List Expr} {t : TA} {p pos : Pos} (d : Own X.prog X.w X.K X.mg X.base x ps k sp) (hr : Room j X.A) (hj : k ≤ j) (hg : Gl X x) (ha : PA X (e :: es) t)
    (he : starEach (e :: es) X.env = (false, eval e X.env) :: starEach es X.env := by rfl) (hdb : (x == ("__debug__" : Str)) = false := by decide) (hpl : (backTo pos (starEach es X.env)).any (·.1) = false := by rfl) :
    PE X (.Call (.Name x p) (e :: es) [] pos) (tCall sp [] E0 t) := by
  obtain ⟨f, fd, F, hm, hk, hb⟩ := d
  exact pe_call F (hr.mono hj) hg hm hk hb .nil pass0 ha hdb he hpl
/-! ### one object hidden: the bag of draws, which changes -/
def hid (b : Addr) (H : Hp) : Hp := fun a => if a = b then none else H a
theorem hid_same (b : Addr) (H : Hp) : Same (hid b H) H := fun a o h => by
  unfold hid at h
  split at h
  · cases h
  · exact h
theorem hid_at {b a : Addr} {H : Hp} {o : HO} (h : H a = some o) (n : a ≠ b) : hid b H a = some o := by
  unfold hid
  rw [if_neg n]
  exact h
theorem hid_self (b : Addr) (H : Hp) : hid b H b = none := by
  unfold hid
  rw [if_pos rfl]
theorem hid_upd (b : Addr) (H : Hp) (o : HO) : hid b (upd H b o) = hid b H := by
  funext a
  unfold hid
  by_cases h : a = b
  · rw [if_pos h, if_pos h]
  · rw [if_neg h, if_neg h, upd_ne h]
/-- the bag at b, and all else as it was or more -/
def Bag (H : Hp) (b : Addr) : Prop := ∃ x y : Int, H b = some (.lst [.int x, .int y]) ∧ 0 ≤ x ∧ 0 ≤ y ∧ y < 2147483648
structure Fr (b : Addr) (H H' : Hp) : Prop where
  bag : Bag H' b
  sm : Same (hid b H) (hid b H')
theorem Fr.refl {b : Addr} {H : Hp} (h : Bag H b) : Fr b H H := ⟨h, Same.refl _⟩
theorem Fr.trans {b : Addr} {H H1 H2 : Hp} (x : Fr b H H1) (y : Fr b H1 H2) : Fr b H H2 := ⟨y.bag, x.sm.trans y.sm⟩
theorem Bag.ne {b p : Addr} {H : Hp} (h : Bag H b) (n : H p = none) : p ≠ b := fun e => by
  obtain ⟨x, y, h, _⟩ := h
  rw [e, h] at n
  cases n
theorem Fr.new {b p : Addr} {H : Hp} {o : HO} (h : Bag H b) (n : H p = none) : Fr b H (upd H p o) := by
  have hp := h.ne n
  refine ⟨?_, fun a u e => ?_⟩
  · obtain ⟨x, y, h, r⟩ := h
    exact ⟨x, y, by rw [upd_ne hp.symm]; exact h, r⟩
  · have e1 := hid_same b H a u e
    have e2 : a ≠ b := fun z => by
      rw [z, hid_self] at e
      cases e
    exact hid_at (by rw [upd_ne (ne_of_none e1 n)]; exact e1) e2
/-- an object made on the way may change -/
theorem Fr.mut {b p : Addr} {H H' : Hp} {o : HO} (x : Fr b H H') (n : H p = none) (hb : p ≠ b) : Fr b H (upd H' p o) := by
  refine ⟨?_, fun a u e => ?_⟩
  · obtain ⟨x1, y, h, r⟩ := x.bag
    exact ⟨x1, y, by rw [upd_ne hb.symm]; exact h, r⟩
  · have e1 := hid_same b H a u e
    have e3 := x.sm a u e
    have e4 := hid_same b H' a u e3
    have e2 : a ≠ b := fun z => by
      rw [z, hid_self] at e
      cases e
    exact hid_at (by rw [upd_ne (ne_of_none e1 n)]; exact e4) e2
theorem Fr.at {b a : Addr} {H H' : Hp} {o : HO} (x : Fr b H H') (h : H a = some o) (n : a ≠ b) : H' a = some o := hid_same b H' a o (x.sm a o (hid_at h n))
theorem Fr.free {b p : Addr} {H H' : Hp} (x : Fr b H H') (hb : Bag H b) (h : H' p = none) : H p = none := by
  have hp : p ≠ b := x.bag.ne h
  cases e : H p with
  | none => rfl
  | some o =>
    rw [x.at e hp] at h
    cases h
/-! ### data -/
mutual
theorem dp_same {K : PySem.W.Frag} {H H' : Hp} (e : Same H H') : ∀ (d : PyData) (v : V), Dp K H v d → Dp K H' v d
  | _, _, .non => .non
  | _, _, .bl b => .bl b
  | _, _, .int i => .int i
  | _, _, .str x => .str x
  | _, _, .lst h r => .lst (Evl.ex_l e h) (dps_same e _ _ r)
  | _, _, .tup h r => .tup (Evl.ex_t e h) (dps_same e _ _ r)
theorem dps_same {K : PySem.W.Frag} {H H' : Hp} (e : Same H H') : ∀ (ds : List PyData) (vs : List V), DpAll K H vs ds → DpAll K H' vs ds
  | _, _, .nil => .nil
  | _, _, .cons h r => .cons (dp_same e _ _ h) (dps_same e _ _ r)
end
theorem dps_len {K : PySem.W.Frag} {H : Hp} : ∀ {vs : List V} {ds : List PyData}, DpAll K H vs ds → vs.length = ds.length
  | _, _, .nil => rfl
  | _, _, .cons _ r => congrArg (· + 1) (dps_len r)
theorem dps_at {K : PySem.W.Frag} {H : Hp} : ∀ {vs : List V} {ds : List PyData} {i : Nat} {v : V}, DpAll K H vs ds → vs[i]? = some v → ∃ d, ds[i]? = some d ∧ Dp K H v d
  | _, _, 0, _, .cons h r, e => ⟨_, rfl, by cases e; exact h⟩
  | _, _, i + 1, _, .cons h r, e => dps_at (i := i) r e
theorem dps_app {K : PySem.W.Frag} {H : Hp} : ∀ {vs ws : List V} {ds es : List PyData}, DpAll K H vs ds → DpAll K H ws es → DpAll K H (vs ++ ws) (ds ++ es)
  | _, _, _, _, .nil, q => q
  | _, _, _, _, .cons h r, q => .cons h (dps_app r q)
/-! ### kinds -/
def tyN : PyData → String
  | .none => "NoneType"
  | .bool _ => "bool"
  | .int _ => "int"
  | .str _ => "str"
  | .list _ => "list"
  | .tuple _ => "tuple"
  | .dict _ => "dict"
theorem ty_tup {K : PySem.W.Frag} {H : Hp} {a : Addr} {xs : List V} (h : SqT K H a xs) : TyX K H (.ref a) (.type "tuple") := by
  rcases h with (h | ⟨o, h⟩) | ⟨o, its, n, hk, hc, _⟩
  · exact .base (.tup h)
  · exact .fTuple h
  · exact .kTuple hk hc
theorem ty_lst {K : PySem.W.Frag} {H : Hp} {a : Addr} {xs : List V} (h : SqL K H a xs) : TyX K H (.ref a) (.type "list") := by
  rcases h with (h | ⟨o, h⟩) | ⟨o, its, n, hk, hc, _⟩
  · exact .base (.lst h)
  · exact .base (.frz h)
  · exact .kList hk hc
theorem ty_dp {K : PySem.W.Frag} {H : Hp} {v : V} {d : PyData} (h : Dp K H v d) : TyX K H v (.type (tyN d)) := by
  cases h with
  | non => exact .base .non
  | bl b => exact .base (.bl b)
  | int i => exact .base (.int i)
  | str z => exact .base (.str z)
  | lst h r => exact ty_lst h
  | tup h r => exact ty_tup h
theorem dp_nodict {K : PySem.W.Frag} {H : Hp} {v : V} {d : PyData} (h : Dp K H v d) : ∀ kv, d ≠ .dict kv := by
  cases h <;> intro kv z <;> cases z
/-- isinstance of data -/
theorem isi {K : PySem.W.Frag} {H : Hp} {v : V} {d : PyData} {c : String} {b : Bool} {Q : VK} (h : Dp K H v d) (k : kitB (tyN d) c = some b) (q : Q (.bl b) H) : rIsi K [v, .ty c] H Q :=
  ⟨v, .ty c, .type (tyN d), .type c, b, rfl, .ty c, ty_dp h, kit_ty k, q⟩
def isInt : PyData → Bool
  | .int _ => true | .bool _ => true | _ => false
def isBool : PyData → Bool
  | .bool _ => true | _ => false
def isTup : PyData → Bool
  | .tuple _ => true | _ => false
def isStr : PyData → Bool
  | .str _ => true | _ => false
theorem kit_int {d : PyData} (n : ∀ kv, d ≠ .dict kv) : kitB (tyN d) "int" = some (isInt d) := by
  cases d with
  | none => exact (by decide +kernel : kitB "NoneType" "int" = some false)
  | bool _ => exact (by decide +kernel : kitB "bool" "int" = some true)
  | int _ => exact (by decide +kernel : kitB "int" "int" = some true)
  | str _ => exact (by decide +kernel : kitB "str" "int" = some false)
  | list _ => exact (by decide +kernel : kitB "list" "int" = some false)
  | tuple _ => exact (by decide +kernel : kitB "tuple" "int" = some false)
  | dict kv => exact absurd rfl (n kv)
theorem kit_bool {d : PyData} (n : ∀ kv, d ≠ .dict kv) : kitB (tyN d) "bool" = some (isBool d) := by
  cases d with
  | none => exact (by decide +kernel : kitB "NoneType" "bool" = some false)
  | bool _ => exact (by decide +kernel : kitB "bool" "bool" = some true)
  | int _ => exact (by decide +kernel : kitB "int" "bool" = some false)
  | str _ => exact (by decide +kernel : kitB "str" "bool" = some false)
  | list _ => exact (by decide +kernel : kitB "list" "bool" = some false)
  | tuple _ => exact (by decide +kernel : kitB "tuple" "bool" = some false)
  | dict kv => exact absurd rfl (n kv)
theorem kit_tuple {d : PyData} (n : ∀ kv, d ≠ .dict kv) : kitB (tyN d) "tuple" = some (isTup d) := by
  cases d with
  | none => exact (by decide +kernel : kitB "NoneType" "tuple" = some false)
  | bool _ => exact (by decide +kernel : kitB "bool" "tuple" = some false)
  | int _ => exact (by decide +kernel : kitB "int" "tuple" = some false)
  | str _ => exact (by decide +kernel : kitB "str" "tuple" = some false)
  | list _ => exact (by decide +kernel : kitB "list" "tuple" = some false)
  | tuple _ => exact (by decide +kernel : kitB "tuple" "tuple" = some true)
  | dict kv => exact absurd rfl (n kv)
theorem kit_str {d : PyData} (n : ∀ kv, d ≠ .dict kv) : kitB (tyN d) "str" = some (isStr d) := by
  cases d with
  | none => exact (by decide +kernel : kitB "NoneType" "str" = some false)
  | bool _ => exact (by decide +kernel : kitB "bool" "str" = some false)
  | int _ => exact (by decide +kernel : kitB "int" "str" = some false)
  | str _ => exact (by decide +kernel : kitB "str" "str" = some true)
  | list _ => exact (by decide +kernel : kitB "list" "str" = some false)
  | tuple _ => exact (by decide +kernel : kitB "tuple" "str" = some false)
  | dict kv => exact absurd rfl (n kv)
/-! ### a list beside the empty one -/
def rNeE (K : PySem.W.Frag) : R2 := fun x y H Q => ∃ (a b : Addr) (xs : List V), x = .ref a ∧ y = .ref b ∧ SqL K H a xs ∧ SqL K H b [] ∧ Q (.bl (!xs.isEmpty)) H
theorem op_neE {X : Cx} (hu : X.A.units + 64 < cLine) : OpR X (compareOp .NotEq) (rNeE X.K) := by
  intro pins s σ H x y v u Q I rx ry h
  obtain ⟨a, b, xs, rfl, rfl, ha, hb, q⟩ := h
  cases xs with
  | nil => exact op_neD hu pins s σ H _ _ v u Q I rx ry ⟨.list [], .list [], .lst ha .nil, .lst hb .nil, rfl, rfl, q⟩
  | cons z zs =>
    cases (show v = Value.ref a from rx)
    cases (show u = Value.ref b from ry)
    obtain ⟨i1, r1, l1, _⟩ := I.list ha
    obtain ⟨i2, r2, l2, _⟩ := I.list hb
    have h1 : (i1.toArray.size != i2.toArray.size) = true := by
      have e1 := r1.length
      have e2 := r2.length
      simp only [List.size_toArray]
      rw [← e1, ← e2]
      rfl
    exact SeqAt.RcNeAt.lists_lengths l1.isList l2.isList h1 (by omega) _ _ _ _ ⟨.bl true, H, I, rfl, q⟩
/-! ### evaluation of tests over data -/
section
open Evl
variable {K : PySem.W.Frag} {σ : L2.St} {H : Hp} {ta tb tc : TE} {x y z v : V} {d : PyData}
theorem rc_isi {c : String} {b : Bool} (h : Dp K H v d) (k : kitB (tyN d) c = some b) : RC (rIsi K) [v, .ty c] H (.bl b) := fun H1 e _ q => isi (dp_same e _ _ h) k (q H1 (Ex.refl H1))
theorem ev_isi {c : String} {b : Bool} (ha : Ev ta σ H v) (h : Dp K H v d) (k : kitB (tyN d) c = some b) : Ev (tCB (rIsi K) (tCons ta (tCons (tC (.ty c)) tNil))) σ H (.bl b) := ev_cb (ea_cons ha (ea_cons ev_c ea_nil)) (rc_isi h k)
theorem ev_int (ha : Ev ta σ H v) (h : Dp K H v d) : Ev (tCB (rIsi K) (tCons ta (tCons (tC (.ty "int")) tNil))) σ H (.bl (isInt d)) := ev_isi ha h (kit_int (dp_nodict h))
theorem ev_bool (ha : Ev ta σ H v) (h : Dp K H v d) : Ev (tCB (rIsi K) (tCons ta (tCons (tC (.ty "bool")) tNil))) σ H (.bl (isBool d)) := ev_isi ha h (kit_bool (dp_nodict h))
theorem ev_tuple (ha : Ev ta σ H v) (h : Dp K H v d) : Ev (tCB (rIsi K) (tCons ta (tCons (tC (.ty "tuple")) tNil))) σ H (.bl (isTup d)) := ev_isi ha h (kit_tuple (dp_nodict h))
theorem ev_str (ha : Ev ta σ H v) (h : Dp K H v d) : Ev (tCB (rIsi K) (tCons ta (tCons (tC (.ty "str")) tNil))) σ H (.bl (isStr d)) := ev_isi ha h (kit_str (dp_nodict h))
theorem ev_chain {p p' : Int → Int → Bool} {i j k : Int} (ha : Ev ta σ H (.int i)) (hb : Ev tb σ H (.int j)) (hc : Ev tc σ H (.int k)) :
    Ev (tChain (rI0 fun i j => .bl (p i j)) (rI0 fun i j => .bl (p' i j)) ta tb tc) σ H (.bl (p i j && p' j k)) := fun H1 e Q q =>
  ha H1 e _ fun H2 e2 => hb H2 (e.trans e2) _ fun H3 e3 => ⟨i, j, rfl, rfl, p i j, rfl, by
    cases h : p i j with
    | true => exact hc H3 ((e.trans e2).trans e3) _ fun H4 e4 => ⟨j, k, rfl, rfl, by
        rw [h] at q
        exact q H4 ((e2.trans e3).trans e4)⟩
    | false =>
      rw [h] at q
      exact q H3 (e2.trans e3)⟩
/-- a def that answers a truth of data -/
def spTold (K : PySem.W.Frag) (f : PyData → Bool) : Sp := fun vs H Q _ => ∃ (v : V) (d : PyData), vs = [v] ∧ Dp K H v d ∧ ∀ H', Ex H H' → Q (.bl (f d)) H'
theorem spv_told {f : PyData → Bool} (h : Dp K H v d) : SpV (spTold K f) [v] H (.bl (f d)) := fun H1 e Q q E => ⟨v, d, rfl, dp_same e _ _ h, fun H' e' => q H' e'⟩
theorem ev_told {f : PyData → Bool} {E : XK} (ha : Ev ta σ H v) (h : Dp K H v d) : Ev (tCall (spTold K f) [] E (tCons ta tNil)) σ H (.bl (f d)) := ev_call (ea_cons ha ea_nil) (spv_told h)
theorem ev_ixT {p : Addr} {xs : List V} {j : Nat} (ha : Ev ta σ H (.ref p)) (h : SqT K H p xs) (hj : xs[j]? = some v) : Ev (tOp (rIxT K) ta (tC (.int (j : Int)))) σ H v := ev_op ha ev_c (rv_ixT h (atI_nat hj))
theorem ev_lenT {p : Addr} {xs : List V} (ha : Ev ta σ H (.ref p)) (h : SqT K H p xs) : Ev (tCB (rLenS K) (tCons ta tNil)) σ H (.int (xs.length : Int)) := fun H1 e Q q =>
  ha H1 e _ fun H2 e2 => ⟨p, xs, rfl, Or.inr (ex_t (e.trans e2) h), q H2 e2⟩
theorem ev_ix0 {p : Addr} {xs : List V} (ha : Ev ta σ H (.ref p)) (h : SqT K H p (v :: xs)) : Ev (tOp (rIxT K) ta (tC (.int 0))) σ H v := ev_ixT (j := 0) ha h rfl
theorem ev_ix1 {p : Addr} {xs : List V} (ha : Ev ta σ H (.ref p)) (h : SqT K H p (x :: v :: xs)) : Ev (tOp (rIxT K) ta (tC (.int 1))) σ H v := ev_ixT (j := 1) ha h rfl
theorem two_of {α : Type} {l : List α} (h : l.length = 2) : ∃ x y, l = [x, y] := match l, h with | [x, y], _ => ⟨x, y, rfl⟩
end
end Tc
/-! sets of ints out of a list, and their sorted list, of any length -/
namespace Tc
open PySem L2 PyProof.Rows
section
variable {P : Program} {w : World} {A : Around} {E : Value → Shared → Prop} {s : Shared}
/-- the empty set as the model lays it -/
abbrev noneSet (w : World) : Obj := { cls := .type "set", dict := none, data := .set #[] 0 (.fresh 0 0 (!w.params.followText "set-order")) }
abbrev withSet (w : World) (s : Shared) : Shared := { s with heap := s.heap.push (noneSet w) }
/-- what is known behind set(..) of ints -/
def Made (w : World) (s : Shared) (ns : List Int) (s₂ : Shared) : Prop := ∃ (h' : Heap) (tk c : Nat), s₂ = { s with heap := h', toks := tk } ∧ SetR w h' s.heap.objs.size (fun j => decide (j ∈ ns)) c ∧ c ≤ ns.length ∧ ∀ b o, s.heap.get? b = some o → h'.get? b = some o
set_option maxHeartbeats 8000000 in
theorem call_set_ints {l : Addr} {items : Array Value} {ns : List Int} {Q : Value → Shared → Prop} (hh : A.handled = none) (hl : s.heap.IsList l items) (hit : IntsAre items.toList ns) (hb : ns.length + 1 < scanBound)
    (h : ∀ s₂, Made w s ns s₂ → Q (.ref s.heap.objs.size) s₂) : wpAny (model P w) A (call (.type "set") [.ref l]) Q E s := by
  have hisz : items.size = ns.length := by rw [← Array.length_toList]; exact IntsAre.length hit
  obtain ⟨⟨ocls, odict, odata, oslots⟩, hol, hcl, nl, hdl⟩ := hl
  simp only at hcl hdl
  subst hcl; subst hdl
  have lS : l < s.heap.objs.size := Heap.lt_size hol
  have hS : (withSet w s).heap.get? s.heap.objs.size = some (noneSet w) := Heap.get?_push_size _ rfl
  have hT : (withSet w s).TypeIs (.ref s.heap.objs.size) "set" := ⟨_, hS, rfl⟩
  have hol' := Heap.get?_push_of_some (noneSet w) hol
  have hl1 : (withSet w s).heap.IsList l items := ⟨_, hol', rfl, nl, rfl⟩
  obtain ⟨c0, tl0, p1⟩ := F.called_set.mro
  have p2 := F.called_set.made
  have p3 := F.called_set.sub
  have p4 := F.called_set.notType
  have p5 := F.called_set.canCreate
  have p6 := F.typeCall_set_1 (.ref l)
  have p7 := F.called_set.init.lookup
  have p8 := F.called_set.init.bind (.ref s.heap.objs.size)
  refine wpAny_call (codeAny_of_tree (show wpAny _ _ (callAny (.type "set") _) _ _ _ from wpAny_pure ⟨Code.quiet_builtin _ (by decide +kernel), codeAny_builtin F.entry_type_call ?_⟩))
  rw [Around.under_plain (weight_type_call_type "set" [.ref l] []) rfl]
  repeat (any_goals (first | assumption | wp_step))
  refine codeAny_mono (code_set_led1 (.ref l) (E := E) (Q₁ := fun obj s₁ => obj = .ref s.heap.objs.size ∧ s₁ = withSet w s) ⟨rfl, rfl⟩) fun r s₁ hr => ?_
  rcases r with e | fl
  · exact hr
  cases fl with
  | ret obj =>
    obtain ⟨rfl, rfl⟩ := hr
    repeat (any_goals (first | assumption | wp_step))
    refine codeAny_mono (codeAny_call_builtin (R := wants (fun r s₂ => r = .none ∧ Made w s ns s₂) E) F.called_set.init.plain F.entry_set_init (check_set_init_1 hT ?_)) fun r₂ s₂ hr₂ => ?_
    · have q1 := F.sub_list_set
      have q2 := F.sub_list_frozenset
      have q3 : (Value.type "list" == Value.type "dict") = false := by decide
      unfold Builtin.«set.__init__» noKeywords Builtin.Frozenset.updateFrom
      generalize hPI : pyIter = PI
      wp_walk
      subst hPI
      refine wpAny_pyIter_list hl1 (wpAny_bind (wpAny_runValue ?_))
      have z1 : (withSet w s).heap.objs.size = s.heap.objs.size + 1 := Heap.size_push ..
      have n1 : l ≠ (withSet w s).heap.objs.size := by
        rw [z1]
        exact Nat.ne_of_lt (Nat.lt_succ_of_lt lS)
      have n2 : s.heap.objs.size ∉ [(withSet w s).heap.objs.size, l] := by
        rw [z1]
        intro m
        simp only [List.mem_cons, List.not_mem_nil, or_false] at m
        rcases m with m | m
        · exact absurd m (Nat.ne_of_lt (Nat.lt_succ_self _))
        · exact absurd m (Nat.ne_of_gt lS)
      have each : ∀ (i : Nat) (v : Value), items[i]? = some v → ∃ (k : Int) (tok : Tok), ns[i]? = some k ∧ v = .int k tok := fun i v at_ => by
        have lt : i < ns.length := hisz ▸ (Array.getElem?_eq_some_iff.mp at_).1
        obtain ⟨tok, rfl⟩ := IntsAre.int_at hit i v (Array.getElem?_toList ▸ at_)
        exact ⟨ns[i], tok, List.getElem?_eq_getElem lt, by simp [lt]⟩
      refine set_update_ints ((Walks.list (by simp [hh]) _ l n1 items).toS) s.heap.objs.size n2 ns hisz hb each (items.size - 0) 0 _ (by omega) (Nat.zero_le _)
        ⟨⟨_, Heap.get?_push_size _ rfl, rfl, rfl⟩, hl1.push _⟩ ⟨0, Nat.le_refl 0, setR_new_at (Heap.get?_push_of_some _ hS)⟩ fun s' c' hm hc' hS' => ?_
      obtain ⟨h', gen', drw', tk', os1⟩ := s'
      cases (show gen' = s.gens from hm.gens)
      cases (show drw' = s.drawn from hm.drawn)
      cases (show os1 = s.os from hm.os)
      refine wpAny_pure (show wpAny _ _ (ret Value.none) _ _ _ from wpAny_pure ⟨rfl, h', tk', c', rfl, hS', by omega, fun b o e => ?_⟩)
      have b0 : b < s.heap.objs.size := Heap.lt_size e
      refine hm.heap b o (fun m => ?_) (Heap.get?_push_of_some _ (Heap.get?_push_of_some _ e))
      simp only [List.mem_cons, List.not_mem_nil, or_false] at m
      rcases m with m | m
      · exact absurd m (Nat.ne_of_lt b0)
      · exact absurd (m.trans z1) (Nat.ne_of_lt (Nat.lt_succ_of_lt b0))
    · rcases r₂ with e | f2
      · exact hr₂
      cases f2 with
      | ret r =>
        obtain ⟨rfl, m⟩ := hr₂
        repeat (any_goals (first | assumption | wp_step))
        exact h _ m
      | _ => exact hr₂.elim
  | _ => exact hr.elim
end
/-! ### the rules -/
section
variable {X : Cx}
/-- set(xs), xs a list of ints -/
def rSetL (K : PySem.W.Frag) (w : World) : List V → Hp → VK → Prop := fun xs H Q => ∃ (l : Addr) (ns : List Int), xs = [V.ref l] ∧ SqL K H l (ns.map V.int) ∧ ns.length ≤ 4000 ∧
  ∀ (p : Addr) (c : Nat), H p = none → c ≤ ns.length → Q (.ref p) (upd H p (SetO w p (fun j => decide (j ∈ ns)) c))
theorem cr_setL (hc : X.calm = true) : CallR X (.type "set") (rSetL X.K X.w) := by
  intro pins s σ H vs us Q I r ⟨l, ns, e0, hs, hz, q⟩
  subst e0
  rw [Vals.ref1 r]
  have ⟨its, rv, hl, _⟩ := I.list hs
  refine call_set_ints (ns := ns) (I.ok.hd hc) hl.isList rv.ints (by unfold scanBound; omega) fun s₂ m => ?_
  obtain ⟨h', tk, c, rfl, R, hc', k⟩ := m
  exact ⟨.ref _, upd H s.heap.objs.size (SetO X.w s.heap.objs.size (fun j => decide (j ∈ ns)) c), I.laid (t' := tk) k (Nat.le_refl _) (setO_new R), rfl, q _ c (I.hok.fresh (Nat.le_refl _)) hc'⟩
end
end Tc
/-! the sorted list of a set of ints, of any length -/
namespace Tc
open PySem L2 PyProof.Rows
section
variable {P : Program} {w : World} {A : Around} {E : Value → Shared → Prop} {s : Shared} {a : Addr}
set_option maxHeartbeats 9000000 in
/-- sorted(a set of ints): the road of the library's rule for fewer than 64 of them, with its sort of ints of any number -/
theorem sorted_any {S : Int → Bool} {n : Nat} {Q : Value → Shared → Prop} (R : SetR w s.heap a S n) (free : A.handled = none)
    (fin : ∀ s' p (out : List Value) (c : Nat) (ns : List Int), (∀ b o, s.heap.get? b = some o → s'.heap.get? b = some o) → s'.gens = s.gens → s'.os = s.os → s.heap.objs.size ≤ p →
      s'.heap.get? p = some (seqObj "list" out.toArray c) → IntsAre out ns → ns.Pairwise (· < ·) → (∀ k, k ∈ ns ↔ S k = true) → ns.length = n → ns.length ≤ sizeLine → Q (.ref p) s') : wpAny (model P w) A (call (.builtin "sorted") [.ref a]) Q E s := by
  obtain ⟨ob, ents, _, _, at1, exact1, dat, isI, once, mem, room, fits, count, ring, laid⟩ := R
  have many : ∀ {l : List Value}, l.Perm (ents.toList.map (·.2)) → l.length = n := fun pm => (pm.length_eq.trans (by simp)).trans count
  have size : n ≤ sizeLine := count ▸ fits_of_scanBound room
  refine Calls.call_function_entry kind_sorted plain_sorted entry_sorted (args_sorted1 _) (show wpAny _ _ (Builtin.«sorted» _) _ _ _ from ?_)
  refine wpAny_bind (m := checkCount "sorted" 1 1 _) (wpAny_pure (wpAny_bind (collect_set (A := A.in1) free ⟨ob, at1, exact1.1, dat⟩ fits room ring laid fun t vs keep old gens os pm => ?_)))
  /- the items, as ints -/
  have are : IntsAre vs (vs.map Builtin.Re.reRawOf) := ints_of vs fun v m => by
    have ⟨x, mx, ex⟩ := List.mem_map.mp (pm.mem_iff.mp m)
    have ⟨i, tok, hx, _⟩ := isI x mx
    exact ⟨i, tok, ex ▸ hx⟩
  have these : (vs.map Builtin.Re.reRawOf).Perm (ents.toList.map keyOf) := (pm.map Builtin.Re.reRawOf).trans (by rw [List.map_map]; exact .refl _)
  refine wpAny_bind (wpAny_newList ?_ ((many pm).symm ▸ size))
  generalize hL : t.heap.push (seqObj "list" vs.toArray 0) = L
  have new : L.get? t.heap.objs.size = some (seqObj "list" vs.toArray 0) := hL ▸ Heap.get?_push_size _ rfl
  refine wpAny_bind (wpAny_holding (wpAny_call_entry slot_list_sort ⟨_, new, rfl⟩ entry_list_sort (SrtO.list_sort_ord SrtO.swo_int new ((many pm).symm ▸ size) (fun lt => SrtO.ints_sortable are lt) fun out o1 o2 => ⟨_, rfl, ?_⟩) (args_list_sort _)))
  obtain ⟨r1, r2, r3⟩ := SrtO.ints_out are o1 o2
  have ⟨c, hc⟩ := sortedHeap_at (vs := vs) (out := out.toArray) new
  have all := r2.trans these
  have len := all.length_eq.trans ((List.length_map _).trans (Array.length_toList.trans count))
  refine wpAny_pure ⟨_, rfl, fin _ t.heap.objs.size out c _ (fun b u e => ?_) gens os old hc r1 (L2.lt_of_le_nodup _ r3 (all.nodup_iff.mpr once)) (fun k => all.mem_iff.trans (mem k).symm) len (len.symm ▸ size)⟩
  have lt := Heap.lt_size (keep b u e)
  show (sortedHeap L t.heap.objs.size vs out.toArray).get? b = some u
  rw [sortedHeap_old (Nat.ne_of_lt lt) (hL ▸ size_push' t.heap _ ▸ Nat.lt_succ_of_lt lt), ← hL]
  exact Heap.get?_push_of_some _ (keep b u e)
end
section
variable {X : Cx}
/-- sorted(s), s a set of ints: a new list, rising, of just its members -/
def rSortedSetA (w : World) : List V → Hp → VK → Prop := fun vs H Q => ∃ (a : Addr) (S : Int → Bool) (n : Nat), vs = [V.ref a] ∧ H a = some (SetO w a S n) ∧ ∀ (ms : List Int) (p : Addr), ms.Pairwise (· < ·) → (∀ k : Int, k ∈ ms ↔ S k = true) → ms.length = n → H p = none → Q (.ref p) (upd H p (.lst (ms.map V.int)))
theorem cr_sortedSetA (hc : X.calm = true) : CallR X (.builtin "sorted") (rSortedSetA X.w) := by
  intro pins s0 σ H vs us Q I r hyp
  obtain ⟨a, S, n, rfl, ha, q⟩ := hyp
  rw [Vals.ref1 r]
  refine sorted_any (setO_get I ha) (I.ok.hd hc) fun t p out c ms keep gens os far at2 are rise mem cnt size => ?_
  have none0 := I.hok.fresh far
  have ok : ObjOk X.prog X.w (upd H p (.lst (ms.map V.int))) t.heap p (.lst (ms.map V.int)) := ⟨(List.length_map (f := V.int)).symm ▸ size, out, c, vals_of_ints are, at2⟩
  have inv := I.call (g' := t.gens) (d' := t.drawn) (t' := t.toks) (ch := []) (Un.laid keep far none0) (I.hok.laid keep far ok) (gens ▸ I.bare) (fun _ z => nomatch z)
  have same : t = { s0 with heap := t.heap, gens := t.gens, drawn := t.drawn, toks := t.toks } := by
    obtain ⟨t1, t2, t3, t4, t5⟩ := t
    cases os
    rfl
  exact same ▸ ⟨.ref p, _, inv, rfl, q ms p rise mem cnt none0⟩
end
end Tc
namespace Tc
open PySem L2 Evl
section
variable {K : PySem.W.Frag} {σ : L2.St} {H : Hp} {ta tb tc te : TE} {x y z v : V} {d : PyData}
theorem s_next {D : Ends} {σ : L2.St} {H : Hp} (h : D.nx σ H) : tNext D σ H := h
theorem s_seq {D : Ends} {σ : L2.St} {H : Hp} {t u : TS} (h : t { D with nx := u D } σ H) : tSeq t u D σ H := h
theorem ev_l0 {p : Addr} {xs : List V} (ha : Ev ta σ H (.ref p)) (h : SqL K H p (v :: xs)) : Ev (tOp (rIxL K) ta (tC (.int 0))) σ H v := ev_op ha ev_c (rv_ixL h (atI_nat (j := 0) rfl))
theorem ev_l1 {p : Addr} {xs : List V} (ha : Ev ta σ H (.ref p)) (h : SqL K H p (x :: v :: xs)) : Ev (tOp (rIxL K) ta (tC (.int 1))) σ H v := ev_op ha ev_c (rv_ixL h (atI_nat (j := 1) rfl))
theorem ex_hid {b : Addr} {H H1 : Hp} (e : Ex H H1) : Same (hid b H) (hid b H1) := fun a u h => by
  have n : a ≠ b := fun z => by
    rw [z, hid_self] at h
    cases h
  exact hid_at (e a u (hid_same b H a u h)) n
theorem Fr.ex {b : Addr} {H H1 : Hp} (h : Bag H b) (e : Ex H H1) : Fr b H H1 := by
  obtain ⟨x, y, hb, r⟩ := h
  exact ⟨⟨x, y, e b _ hb, r⟩, ex_hid e⟩
theorem Fr.put {b : Addr} {H H1 : Hp} {x y : Int} (e : Ex H H1) (hx : 0 ≤ x) (hy : 0 ≤ y) (hz : y < 2147483648) : Fr b H (upd H1 b (.lst [.int x, .int y])) := by
  refine ⟨⟨x, y, upd_same, hx, hy, hz⟩, ?_⟩
  rw [hid_upd]
  exact ex_hid e
theorem rv_mod {i j : Int} (h : 0 < j) : RV (rI (fun _ j => 0 < j) fun i j => .int (i % j)) (.int i) (.int j) H (.int (i % j)) := fun H1 _ _ q => ⟨i, j, rfl, rfl, h, q H1 (Ex.refl H1)⟩
theorem rv_fdiv {i j : Int} (h : 0 < j) (h2 : j < 1073741824) : RV (rI CDiv fun i j => .int (i / j)) (.int i) (.int j) H (.int (i / j)) := fun H1 _ _ q => ⟨i, j, rfl, rfl, ⟨h, h2⟩, q H1 (Ex.refl H1)⟩
theorem rv_mul {i j : Int} (h : CMul i j) : RV (rI CMul fun i j => .int (i * j)) (.int i) (.int j) H (.int (i * j)) := fun H1 _ _ q => ⟨i, j, rfl, rfl, h, q H1 (Ex.refl H1)⟩
theorem rv_pow {i j : Int} (h : CPow i j) : RV (rI CPow fun i j => .int (i ^ j.toNat)) (.int i) (.int j) H (.int (i ^ j.toNat)) := fun H1 _ _ q => ⟨i, j, rfl, rfl, h, q H1 (Ex.refl H1)⟩
theorem rv_add {i j : Int} : RV (rI0 fun i j => .int (i + j)) (.int i) (.int j) H (.int (i + j)) := rv_I0
theorem rv_sub {i j : Int} : RV (rI0 fun i j => .int (i - j)) (.int i) (.int j) H (.int (i - j)) := rv_I0
theorem ev_abs {i : Int} (ha : Ev ta σ H (.int i)) : Ev (tCB (fun xs H Q => ∃ i, xs = [.int i] ∧ Q (.int (if i < 0 then -i else i)) H) (tCons ta tNil)) σ H (.int (if i < 0 then -i else i)) :=
  ev_cb (ea_cons ha ea_nil) fun H1 _ _ q => ⟨i, rfl, q H1 (Ex.refl H1)⟩
theorem ev_lx {p : Addr} {xs : List V} {j : Nat} (ha : Ev ta σ H (.ref p)) (hb : Ev tb σ H (.int (j : Int))) (h : SqL K H p xs) (hj : xs[j]? = some v) : Ev (tOp (rIxL K) ta tb) σ H v := ev_op ha hb (rv_ixL h (atI_nat hj))
/-- a new bag -/
def spBag (K : PySem.W.Frag) : Sp := fun vs H Q _ => ∃ (a : Addr) (ns : List Int) (k : Nat), vs = [.ref a, .int (k : Int)] ∧ SqL K H a (ns.map V.int) ∧ k ≤ 1000 ∧ ∀ b H', H b = none → Ex H H' → Bag H' b → Q (.ref b) H'
/-- a draw below m -/
def spTake : Sp := fun vs H Q _ => ∃ (b : Addr) (m : Int), vs = [.ref b, .int m] ∧ Bag H b ∧ 0 < m ∧ m < 1073741824 ∧ ∀ r H', Fr b H H' → 0 ≤ r → r < m → Q (.int r) H'
end
end Tc
namespace Tc
open PySem L2 Evl
section
variable {K : PySem.W.Frag} {σ : L2.St} {H : Hp} {ta tb tc te : TE} {t : TT} {x y z v : V} {d : PyData}
/-- a list comprehension over a tuple, changing nothing -/
theorem el_lcT {a : Addr} {xs : List V} {tl : TE} {j : Nat} {vs : List Nat} (f : Nat → Bool) (u : Nat → V) (h : Ev tl σ H (.ref a)) (hx : SqT K H a xs) (hz : xs.length ≤ 40000) (hw : ∀ x, wipe ((wipe σ vs).set j (some x)) vs = wipe σ vs)
    (ht : ∀ (i : Nat) (x : V) H1, Ex H H1 → xs[i]? = some x → EvT t ((wipe σ vs).set j (some x)) H1 (f i)) (he : ∀ (i : Nat) (x : V) H1, Ex H H1 → xs[i]? = some x → f i = true → Ev te ((wipe σ vs).set j (some x)) H1 (u i)) :
    EvL (tLc (iTup K tl) (gName j) t te vs) σ H (given xs.length f u) := fun H0 e Q q => h H0 e _ fun H1 e1 => ⟨a, rfl, ⟨xs, ex_t (e.trans e1) hx⟩, fun Dl hD =>
  lc_tup (xs := xs) (Cw H1 f u Dl) ⟨hD, Ex.new hD, upd_same⟩ (fun i H' _ p => ex_t ((e.trans e1).trans p.2.1) hx) (fun i x H' hi p => ⟨hw x, cw_turn p (by have := (List.getElem?_eq_some_iff.mp hi).1; omega) (ht i x H1 (e.trans e1) hi) (fun hf => he i x H1 (e.trans e1) hi hf)⟩)
    (fun H' ⟨n0, x0, d0⟩ => q Dl H' (fresh_back e1 n0) (e1.trans x0) d0)⟩
theorem et_yes : EvT tYes σ H true := fun H1 _ _ q => q H1 (Ex.refl H1)
theorem given_all (n : Nat) (u : Nat → V) : given n (fun _ => true) u = (List.range n).map u := by
  unfold given
  rw [List.filter_eq_self.mpr fun _ _ => rfl]
theorem given_empty (n : Nat) (f : Nat → Bool) (u : Nat → V) : (given n f u).isEmpty = true ↔ ∀ i, i < n → f i = false := by
  unfold given
  rw [List.isEmpty_iff, List.map_eq_nil_iff, List.filter_eq_nil_iff]
  constructor
  · intro h i hi
    cases e : f i with
    | true => exact absurd e (h i (List.mem_range.mpr hi))
    | false => rfl
  · intro h i hi
    rw [h i (List.mem_range.mp hi)]
    exact Bool.false_ne_true
/-- two rising lists of the same members are one -/
theorem rising_one : ∀ (a b : List Int), a.Pairwise (· < ·) → b.Pairwise (· < ·) → (∀ k, k ∈ a ↔ k ∈ b) → a = b
  | [], [], _, _, _ => rfl
  | [], y :: b, _, _, h => absurd ((h y).mpr List.mem_cons_self) (by simp)
  | x :: a, [], _, _, h => absurd ((h x).mp List.mem_cons_self) (by simp)
  | x :: a, y :: b, ha, hb, h => by
    obtain ⟨a1, a2⟩ := List.pairwise_cons.mp ha
    obtain ⟨b1, b2⟩ := List.pairwise_cons.mp hb
    have e : x = y := by
      rcases List.mem_cons.mp ((h x).mp List.mem_cons_self) with e | m
      · exact e
      · rcases List.mem_cons.mp ((h y).mpr List.mem_cons_self) with e | m2
        · exact e.symm
        · have p1 := b1 x m
          have p2 := a1 y m2
          omega
    subst e
    refine congrArg (x :: ·) (rising_one a b a2 b2 fun k => ⟨fun m => ?_, fun m => ?_⟩)
    · rcases List.mem_cons.mp ((h k).mp (List.mem_cons_of_mem _ m)) with e | m2
      · have := a1 k m
        omega
      · exact m2
    · rcases List.mem_cons.mp ((h k).mpr (List.mem_cons_of_mem _ m)) with e | m2
      · have := b1 k m
        omega
      · exact m2
/-- sorted(set(xs)) of ints -/
theorem el_sortset {w : World} {ns ms : List Int} (ha : EvL ta σ H (ns.map V.int)) (hl : ns.length ≤ 4000) (hm : ∀ l : List Int, l.Pairwise (· < ·) → (∀ k, k ∈ l ↔ k ∈ ns) → l = ms) :
    EvL (tCB (rSortedSetA w) (tCons (tCB (rSetL K w) (tCons ta tNil)) tNil)) σ H (ms.map V.int) := fun H1 e Q q =>
  ha H1 e _ fun p H2 hp e2 h2 => ⟨p, ns, rfl, sq_of h2, hl, fun s c hs hc => ⟨s, _, c, rfl, upd_same, fun l r hp1 hm1 hn hr => by
    have e3 := hm l hp1 fun k => by rw [hm1 k, decide_eq_true_eq]
    subst e3
    exact q r _ (fresh_back (e2.trans (Ex.new hs)) hr) ((e2.trans (Ex.new hs)).trans (Ex.new hr)) upd_same⟩⟩
theorem el_sortsetV {w : World} {a : Addr} {ns ms : List Int} (ha : Ev ta σ H (.ref a)) (hs : SqL K H a (ns.map V.int)) (hl : ns.length ≤ 4000) (hm : ∀ l : List Int, l.Pairwise (· < ·) → (∀ k, k ∈ l ↔ k ∈ ns) → l = ms) :
    EvL (tCB (rSortedSetA w) (tCons (tCB (rSetL K w) (tCons ta tNil)) tNil)) σ H (ms.map V.int) := fun H1 e Q q =>
  ha H1 e _ fun H2 e2 => ⟨a, ns, rfl, ex_l (e.trans e2) hs, hl, fun s c hs hc => ⟨s, _, c, rfl, upd_same, fun l r hp1 hm1 hn hr => by
    have e3 := hm l hp1 fun k => by rw [hm1 k, decide_eq_true_eq]
    subst e3
    exact q r _ (fresh_back (e2.trans (Ex.new hs)) hr) ((e2.trans (Ex.new hs)).trans (Ex.new hr)) upd_same⟩⟩
theorem dps_ints {ns : List Int} : DpAll K H (ns.map V.int) (ns.map PyData.int) := by
  induction ns with
  | nil => exact .nil
  | cons n ns ih => exact .cons (.int n) ih
theorem eqv_ints : ∀ a b : List Int, PyData.eqvAll (a.map PyData.int) (b.map PyData.int) = decide (a = b)
  | [], [] => rfl
  | [], y :: b => by simp [PyData.eqvAll]
  | x :: a, [] => by simp [PyData.eqvAll]
  | x :: a, y :: b => by
    rw [List.map_cons, List.map_cons, PyData.eqvAll, eqv_ints a b]
    simp [PyData.eqv]
    rfl
theorem shaped_ints (a : List Int) : SeqAt.shaped (.list (a.map PyData.int)) = true := by
  have h : ∀ a : List Int, PyData.canLayAll0 (a.map PyData.int) = true ∧ PyData.depthAll (a.map PyData.int) = 0 := by
    intro a
    induction a with
    | nil => exact ⟨rfl, rfl⟩
    | cons n a ih => exact ⟨by rw [List.map_cons, PyData.canLayAll0, ih.1]; rfl, by rw [List.map_cons, PyData.depthAll, ih.2]; rfl⟩
  unfold SeqAt.shaped
  rw [PyData.canLay0, (h a).1, PyData.depth, (h a).2]
  rfl
end
end Tc
/-! data made beside a bag of draws -/
namespace Tc
open PySem L2 Evl
section
variable {b : Addr} {K : PySem.W.Frag} {σ : L2.St} {H : Hp} {ta tb tc te : TE} {t : TT} {x y z v : V} {d : PyData}
theorem dpt_new {p : Addr} {vs : List V} {ds : List PyData} (hb : Bag H b) (hp : H p = none) (h : DpAll K (hid b H) vs ds) : Dp K (hid b (upd H p (.tup vs))) (.ref p) (.tuple ds) :=
  .tup (st_of (hid_at upd_same (hb.ne hp))) (dps_same (Fr.new hb hp).sm _ _ h)
end
end Tc
namespace Tc
open PySem L2 Evl
section
variable {b : Addr} {K : PySem.W.Frag} {σ : L2.St} {H : Hp} {ta tb tc te : TE} {t : TT} {x y z v : V} {d : PyData} {Q : VK} {E : XK}
theorem take_of {ta : TA} {m : Int} (hB : Bag H b) (ha : EvA ta σ H [.ref b, .int m]) (h0 : 0 < m) (h1 : m < 1073741824) (q : ∀ r H', Fr b H H' → 0 ≤ r → r < m → Q (.int r) H') : tCall spTake [] E ta σ H Q :=
  ha H (Ex.refl H) _ fun H1 e => ⟨b, m, rfl, (Fr.ex hB e).bag, h0, h1, fun r H' fr => q r H' ((Fr.ex hB e).trans fr)⟩
theorem el_cat {xs ys : List V} (ha : EvL ta σ H xs) (hb : EvL tb σ H ys) (hl : xs.length + ys.length ≤ 100000) : EvL (tOp rCat ta tb) σ H (xs ++ ys) := fun H1 e Q q =>
  ha H1 e _ fun p H2 hp e2 h2 => hb H2 (e.trans e2) _ fun r H3 hr e3 h3 => ⟨p, r, xs, ys, rfl, rfl, e3 p _ h2, h3, sz_of hl, fun s hs => q s _ (fresh_back (e2.trans e3) hs) ((e2.trans e3).trans (Ex.new hs)) upd_same⟩
theorem el_is {xs ys : List V} (h : EvL te σ H xs) (e : xs = ys) : EvL te σ H ys := e ▸ h
/-- an item of a new list by a draw -/
theorem item_new {xs : List V} {tb : TE} (ha : EvL ta σ H xs) (hB : Bag H b) (h : ∀ H1, Fr b H H1 → ∀ Q : VK, (∀ r H', Fr b H1 H' → 0 ≤ r → r < (xs.length : Int) → Q (.int r) H') → tb σ H1 Q) (q : ∀ v H', Fr b H H' → v ∈ xs → Q v H') : tOp (rIxL K) ta tb σ H Q :=
  ha H (Ex.refl H) _ fun p H1 hp e h1 => h H1 (Fr.ex hB e) _ fun r H2 f2 h0 h3 => by
    obtain ⟨n, rfl⟩ : ∃ n : Nat, r = (n : Int) := ⟨r.toNat, by omega⟩
    have hlt : n < xs.length := by omega
    have hpb : p ≠ b := hB.ne hp
    exact ⟨p, xs, n, xs[n], rfl, rfl, sq_of (f2.at h1 hpb), atI_nat (List.getElem?_eq_getElem hlt), q _ _ ((Fr.ex hB e).trans f2) (List.getElem_mem hlt)⟩
end
end Tc
namespace Tc
open PySem L2 Evl
theorem same_hid {D : Addr} {H H' : Hp} (e : Same H H') : Same (hid D H) (hid D H') := fun a u h => by
  have n : a ≠ D := fun z => by
    rw [z, hid_self] at h
    cases h
  exact hid_at (e a u (hid_same D H a u h)) n
theorem hid_upd2 {b D : Addr} (H : Hp) (o : HO) (n : D ≠ b) : hid D (hid b (upd H D o)) = hid D (hid b H) := by
  funext a
  unfold hid
  by_cases h : a = D
  · rw [if_pos h, if_pos h]
  · rw [if_neg h, if_neg h]
    by_cases h2 : a = b
    · rw [if_pos h2, if_pos h2]
    · rw [if_neg h2, if_neg h2, upd_ne h]
/-- a list at D that collects data, beside a bag at b -/
structure Col (b : Addr) (K : PySem.W.Frag) (g : PyData → Bool) (H : Hp) (D : Addr) (i : Nat) (H' : Hp) : Prop where
  fr : Fr b H H'
  new : H D = none
  ne : D ≠ b
  ex : ∃ (vs : List V) (ds : List PyData), H' D = some (.lst vs) ∧ DpAll K (hid D (hid b H')) vs ds ∧ vs.length ≤ i ∧ ∀ d ∈ ds, g d = true
section
variable {b D : Addr} {K : PySem.W.Frag} {g : PyData → Bool} {H H' H4 : Hp} {i : Nat} {y : V} {d : PyData}
theorem Col.skip (c : Col b K g H D i H') (f : Fr b H' H4) : Col b K g H D (i + 1) H4 := by
  obtain ⟨vs, ds, h1, h2, h3, h4⟩ := c.ex
  exact ⟨c.fr.trans f, c.new, c.ne, vs, ds, f.at h1 c.ne, dps_same (same_hid f.sm) _ _ h2, by omega, h4⟩
theorem Col.push (c : Col b K g H D i H') (f : Fr b H' H4) (hy : Dp K (hid D (hid b H4)) y d) (hg : g d = true) (hi : i < 10000) : ∃ acc, H4 D = some (.lst acc) ∧ acc.length < sizeLine ∧ Col b K g H D (i + 1) (upd H4 D (.lst (acc ++ [y]))) := by
  obtain ⟨vs, ds, h1, h2, h3, h4⟩ := c.ex
  refine ⟨vs, f.at h1 c.ne, sz_lt (by omega), Fr.mut (c.fr.trans f) c.new c.ne, c.new, c.ne, vs ++ [y], ds ++ [d], upd_same, ?_, by simp; omega, fun e m => ?_⟩
  · rw [hid_upd2 _ _ c.ne]
    exact dps_app (dps_same (same_hid f.sm) _ _ h2) (.cons hy .nil)
  · rcases List.mem_append.mp m with m | m
    · exact h4 e m
    · rw [List.mem_singleton.mp m]
      exact hg
/-- a pair of ints, new -/
theorem dp_pair {p : Addr} {k r : Int} (hB : Bag H b) (hD : H D ≠ none) (hp : H p = none) : Dp K (hid D (hid b (upd H p (.tup [.int k, .int r])))) (.ref p) (.tuple [.int k, .int r]) :=
  .tup (st_of (hid_at (hid_at upd_same (hB.ne hp)) fun z => hD (z ▸ hp))) (.cons (.int k) (.cons (.int r) .nil))
theorem Col.at (c : Col b K g H D i H') : H' D ≠ none := by
  obtain ⟨vs, ds, h1, _⟩ := c.ex
  rw [h1]
  exact fun z => nomatch z
/-- tuple(..) of what was collected -/
theorem Col.tup {te : TE} {σ : L2.St} {Q : VK} {i : Nat} (h : ∀ Q' : VK, (∀ p H', Col b K g H p i H' → Q' (.ref p) H') → te σ H Q') (hz : i ≤ 1100)
    (q : ∀ v d H', Fr b H H' → Dp K (hid b H') v d → (∃ ds : List PyData, d = .tuple ds ∧ ds.length ≤ i ∧ ∀ d ∈ ds, g d = true) → Q v H') :
    tCB (fun xs H Q => ∃ p ys, xs = [.ref p] ∧ ((SqL K H p ys ∧ ∀ l, H l = none → Q (.ref l) (upd H l (.tup ys))) ∨ (SqT K H p ys ∧ Q (.ref p) H))) (tCons te tNil) σ H Q :=
  h _ fun p H' c => by
    obtain ⟨vs, ds, h1, h2, h3, h4⟩ := c.ex
    refine ⟨p, vs, rfl, .inl ⟨sq_of h1, fun l hl => q (.ref l) (.tuple ds) _ (c.fr.trans (Fr.new c.fr.bag hl)) (dpt_new c.fr.bag hl (dps_same (hid_same p _) _ _ h2)) ⟨ds, rfl, by rw [← dps_len h2]; exact h3, h4⟩⟩⟩
end
end Tc
namespace Tc
open PySem L2 Evl
theorem log_small {i : Int} {c : Nat} (hc : c ≤ 1000) (h : i.natAbs ≤ 10 ^ 31 + 1000 * c) : i.natAbs.log2 < 1920 := by
  have h1 : i.natAbs < 2 ^ 200 := by
    have : (10 : Nat) ^ 31 + 1000 * 1000 < 2 ^ 200 := by decide
    omega
  by_cases h0 : i.natAbs = 0
  · rw [h0]
    decide
  · have := (Nat.log2_lt h0).mpr h1
    omega
end Tc
/-! data kept apart from a set of objects (the bag, lists under work) -/
namespace Tc
open PySem L2 Evl
open Classical in
noncomputable def cut (S : Addr → Prop) (H : Hp) : Hp := fun a => if S a then none else H a
theorem cut_in {S : Addr → Prop} {H : Hp} {a : Addr} (h : S a) : cut S H a = none := by
  unfold cut
  rw [if_pos h]
theorem cut_at {S : Addr → Prop} {H : Hp} {a : Addr} {o : HO} (h : H a = some o) (n : ¬ S a) : cut S H a = some o := by
  unfold cut
  rw [if_neg n]
  exact h
theorem cut_same (S : Addr → Prop) (H : Hp) : Same (cut S H) H := fun a o h => by
  by_cases n : S a
  · rw [cut_in n] at h
    cases h
  · unfold cut at h
    rw [if_neg n] at h
    exact h
theorem cut_out {S : Addr → Prop} {H : Hp} {a : Addr} {o : HO} (h : cut S H a = some o) : ¬ S a := fun n => by
  rw [cut_in n] at h
  cases h
/-- what is kept apart is there -/
structure Sok (S : Addr → Prop) (b : Addr) (H : Hp) : Prop where
  mem : S b
  old : ∀ a, S a → H a ≠ none
section
variable {S : Addr → Prop} {b : Addr} {K : PySem.W.Frag} {σ : L2.St} {H H' : Hp} {ta tb tc te : TE} {t : TT} {x y z v : V} {d : PyData}
theorem Sok.fr (h : Sok S b H) (f : Fr b H H') : Sok S b H' := ⟨h.mem, fun a m => by
  by_cases e : a = b
  · obtain ⟨x, y, hb, _⟩ := f.bag
    rw [e, hb]
    exact fun z => nomatch z
  · cases h1 : H a with
    | none => exact absurd h1 (h.old a m)
    | some o =>
      rw [f.at h1 e]
      exact fun z => nomatch z⟩
theorem Sok.new (h : Sok S b H) {p : Addr} (hp : H p = none) : ¬ S p := fun m => h.old p m hp
theorem cut_sm (h : S b) (f : Fr b H H') : Same (cut S H) (cut S H') := fun a o e => by
  have n := cut_out e
  exact cut_at (f.at (cut_same S H a o e) fun z => n (z ▸ h)) n
/-- the objects of S may change -/
theorem cut_upd {p : Addr} {o : HO} (h : S p) : cut S (upd H p o) = cut S H := by
  funext a
  unfold cut
  by_cases m : S a
  · rw [if_pos m, if_pos m]
  · rw [if_neg m, if_neg m, upd_ne (fun z : a = p => m (z ▸ h))]
end
end Tc
namespace Tc
open PySem L2 Evl
end Tc
namespace Tc
open PySem L2 Evl
section
variable {S : Addr → Prop} {b : Addr} {K : PySem.W.Frag} {σ : L2.St} {H H' : Hp} {ta tb tc te : TE} {t : TT} {x y z v : V} {d : PyData}
/-- one more object kept apart -/
def also (S : Addr → Prop) (l : Addr) : Addr → Prop := fun a => S a ∨ a = l
end
end Tc
/-! data beside texts: ==, not in -/
namespace Tc
open PySem L2 Evl
end Tc
namespace Tc
open PySem L2 Evl
end Tc
namespace Tc
open PySem L2 Evl
/-- a list at D that collects data, one a turn, beside a bag at b, apart from S -/
structure ColE (S : Addr → Prop) (b : Addr) (K : PySem.W.Frag) (g : PyData → Bool) (H : Hp) (D : Addr) (i : Nat) (H' : Hp) : Prop where
  fr : Fr b H H'
  sok : Sok S b H
  new : H D = none
  ne : D ≠ b
  ex : ∃ (vs : List V) (ds : List PyData), H' D = some (.lst vs) ∧ DpAll K (cut (also S D) H') vs ds ∧ vs.length = i ∧ ∀ d ∈ ds, g d = true
section
variable {S : Addr → Prop} {b D : Addr} {K : PySem.W.Frag} {g : PyData → Bool} {H H' H4 : Hp} {i : Nat} {y : V} {d : PyData}
theorem ColE.skip (c : ColE S b K g H D i H') (f : Fr b H' H4) : ColE S b K g H D i H4 := by
  obtain ⟨vs, ds, h1, h2, h3, h4⟩ := c.ex
  exact ⟨c.fr.trans f, c.sok, c.new, c.ne, vs, ds, f.at h1 c.ne, dps_same (cut_sm (.inl c.sok.mem) f) _ _ h2, h3, h4⟩
theorem ColE.push (c : ColE S b K g H D i H') (f : Fr b H' H4) (hy : Dp K (cut (also S D) H4) y d) (hg : g d = true) (hi : i < 10000) : ∃ acc, H4 D = some (.lst acc) ∧ acc.length < sizeLine ∧ ColE S b K g H D (i + 1) (upd H4 D (.lst (acc ++ [y]))) := by
  obtain ⟨vs, ds, h1, h2, h3, h4⟩ := c.ex
  refine ⟨vs, f.at h1 c.ne, sz_lt (by omega), Fr.mut (c.fr.trans f) c.new c.ne, c.sok, c.new, c.ne, vs ++ [y], ds ++ [d], upd_same, ?_, by simp; omega, fun e m => ?_⟩
  · rw [cut_upd (.inr rfl)]
    exact dps_app (dps_same (cut_sm (.inl c.sok.mem) f) _ _ h2) (.cons hy .nil)
  · rcases List.mem_append.mp m with m | m
    · exact h4 e m
    · rw [List.mem_singleton.mp m]
      exact hg
theorem ColE.at (c : ColE S b K g H D i H') : H' D ≠ none := by
  obtain ⟨vs, ds, h1, _⟩ := c.ex
  rw [h1]
  exact fun z => nomatch z
/-- a list of keys at l -/
structure KeysAt (b : Addr) (H : Hp) (l : Addr) (ks : List Int) : Prop where
  ne : l ≠ b
  h : H l = some (.lst (ks.map V.int))
  bd : ∀ k ∈ ks, 0 ≤ k ∧ k < 1000
  few : ks.length ≤ 1000
  some : 0 < ks.length
theorem KeysAt.fr {l : Addr} {ks : List Int} (k : KeysAt b H l ks) (f : Fr b H H') : KeysAt b H' l ks := ⟨k.ne, f.at k.h k.ne, k.bd, k.few, k.some⟩
end
end Tc
/-! a set comprehension with two for's, its members ints -/
namespace Tc
open PySem PySem.Spec PyProof.Rows L2
end Tc
/-! name = {dict comprehension}; tuple(list) as a tuple without a dict of its own; dict(tuple of pairs) -/
namespace Tc
open PySem PySem.Spec PyProof.Rows L2
section
variable {X : Cx}
/-- a tuple that is known to have no dict of its own -/
def PT (H : Hp) (a : Addr) (xs : List V) : Prop := ∃ o : Obj, H a = some (.frz o (.tup xs)) ∧ o.dict = none
theorem PT.st {K : PySem.W.Frag} {H : Hp} {a : Addr} {xs : List V} (h : PT H a xs) : SqT K H a xs := let ⟨o, x, _⟩ := h; .inl (.inr ⟨o, x⟩)
/-- tuple(list) -/
def rTupP (K : PySem.W.Frag) : List V → Hp → VK → Prop := fun xs H Q => ∃ (p : Addr) (ys : List V), xs = [.ref p] ∧ SqL K H p ys ∧ ∀ (l : Addr) (o : Obj), H l = none → o.dict = none → Q (.ref l) (upd H l (.frz o (.tup ys)))
theorem cr_tupP : CallR X (.type "tuple") (rTupP X.K) := by
  intro pins s σ H xs us Q I r ⟨p, ys, e0, hs, fin⟩
  subst e0
  rw [Vals.ref1 r]
  have ⟨its, rv, pl, size⟩ := I.list hs
  refine call_tuple_list pl.isList (fun g keep => ?_) (by rw [List.size_toArray, ← rv.length]; exact size)
  have kept := I.kept (h' := g) (t' := s.toks) keep
  refine ⟨.ref g.objs.size, _, ?_, rfl, fin _ { cls := .type "tuple", data := .seq its.toArray } (kept.hok.fresh (Nat.le_refl _)) rfl⟩
  exact kept.laid (t' := s.toks) (fun b o e => Heap.get?_push_of_some _ e) (Nat.le_refl _) (show ObjOk X.prog X.w _ _ _ (.frz _ (.tup ys)) from ⟨Heap.get?_push_size _ rfl, size, its, rv, IsTup.new _ _⟩)
end
end Tc
/-! a dict of worths by keys, and what changes do to it -/
namespace Tc
open PySem PySem.Spec PyProof.Rows L2
def fset (f : Int → Option Int) (k : Int) (o : Option Int) : Int → Option Int := fun j => if j = k then o else f j
structure DI (ks : List Int) (kvs : List (Key × V)) (f : Int → Option Int) : Prop where
  nd : (kvs.map (·.1)).Nodup
  inn : ∀ p ∈ kvs, ∃ k ∈ ks, p.1 = Sum.inl k
  val : ∀ k, valV kvs (Sum.inl k) = (f k).map V.int
theorem DI.nil {ks : List Int} : DI ks [] fun _ => none := ⟨List.nodup_nil, fun p m => (by cases m), fun k => rfl⟩
theorem valV_drop {k j : Key} : ∀ kvs : List (Key × V), valV (dropK kvs k) j = if j = k then none else valV kvs j
  | [] => by
    show valV [] j = _
    rw [valV_nil]
    split <;> rfl
  | p :: r => by
    by_cases e : p.1 = k
    · rw [dropK_pos e, valV_drop r]
      by_cases h : j = k
      · rw [if_pos h, if_pos h]
      · rw [if_neg h, if_neg h, valV_neg fun z => h (z.symm.trans e)]
    · rw [dropK_neg e]
      by_cases h : p.1 = j
      · rw [valV_pos h, valV_pos h, if_neg fun z => e (h.trans z)]
      · rw [valV_neg h, valV_neg h, valV_drop r]
section
variable {ks : List Int} {kvs : List (Key × V)} {f : Int → Option Int} {k : Int} {w : Int}
theorem DI.drop (h : DI ks kvs f) : DI ks (dropK kvs (.inl k)) (fset f k none) := by
  refine ⟨nd_dropK h.nd, fun p m => h.inn p (dropK_mem m), fun j => ?_⟩
  rw [valV_drop, h.val]
  unfold fset
  by_cases e : j = k
  · rw [if_pos e, if_pos (by rw [e])]
    rfl
  · rw [if_neg e, if_neg fun z => e (Sum.inl.inj z)]
end
theorem len_sub {α : Type} [DecidableEq α] : ∀ {l m : List α}, l.Nodup → (∀ x ∈ l, x ∈ m) → l.length ≤ m.length
  | [], _, _, _ => Nat.zero_le _
  | x :: l, m, hn, hs => by
    obtain ⟨h1, h2⟩ := List.nodup_cons.mp hn
    have hx : x ∈ m := hs x List.mem_cons_self
    have := len_sub (l := l) (m := m.erase x) h2 fun y hy => (List.mem_erase_of_ne (a := y) (b := x) fun (e : y = x) => h1 (e ▸ hy)).mpr (hs y (List.mem_cons_of_mem _ hy))
    rw [List.length_erase_of_mem hx] at this
    have hp := List.length_pos_of_mem hx
    rw [List.length_cons]
    omega
theorem inls : ∀ {l : List Key}, (∀ x ∈ l, ∃ k, x = Sum.inl k) → ∃ js : List Int, l = js.map Sum.inl
  | [], _ => ⟨[], rfl⟩
  | x :: l, h => by
    obtain ⟨k, rfl⟩ := h x List.mem_cons_self
    obtain ⟨js, rfl⟩ := inls fun y m => h y (List.mem_cons_of_mem _ m)
    exact ⟨k :: js, rfl⟩
theorem valV_memI {kvs : List (Key × V)} {k : Key} : k ∈ kvs.map (·.1) ↔ (valV kvs k).isSome = true := by
  rw [← valV_any, List.any_eq_true, List.mem_map]
  constructor
  · rintro ⟨p, m, e⟩
    exact ⟨p, m, decide_eq_true e⟩
  · rintro ⟨p, m, e⟩
    exact ⟨p, m, of_decide_eq_true e⟩
theorem DI.keys {ks : List Int} {kvs : List (Key × V)} {f : Int → Option Int} (h : DI ks kvs f) : ∃ js : List Int, kvs.map (·.1) = js.map Sum.inl ∧ js.Nodup ∧ (∀ k, k ∈ js ↔ (f k).isSome = true) ∧ js.length ≤ ks.length := by
  obtain ⟨js, e⟩ := inls (l := kvs.map (·.1)) fun x m => by
    obtain ⟨p, hp, rfl⟩ := List.mem_map.mp m
    obtain ⟨k, _, e⟩ := h.inn p hp
    exact ⟨k, e⟩
  have nd : js.Nodup := by
    have := h.nd
    rw [e] at this
    exact (List.pairwise_map.mp this).imp fun {a b} z e => z (congrArg _ e)
  have mem : ∀ k, k ∈ js ↔ (f k).isSome = true := fun k => by
    have := valV_memI (kvs := kvs) (k := .inl k)
    rw [e, h.val, Option.isSome_map] at this
    rw [← this, List.mem_map]
    constructor
    · exact fun m => ⟨k, m, rfl⟩
    · rintro ⟨j, m, z⟩
      cases z
      exact m
  refine ⟨js, e, nd, mem, len_sub nd fun x hx => ?_⟩
  have : (Sum.inl x : Key) ∈ kvs.map (·.1) := e ▸ List.mem_map.mpr ⟨x, hx, rfl⟩
  obtain ⟨p, hp, e'⟩ := List.mem_map.mp this
  obtain ⟨k, hk, e''⟩ := h.inn p hp
  cases (e'.symm.trans e'' : (Sum.inl x : Key) = Sum.inl k)
  exact hk
theorem DI.len {ks : List Int} {kvs : List (Key × V)} {f : Int → Option Int} (h : DI ks kvs f) : kvs.length ≤ ks.length := by
  obtain ⟨js, e, _, _, l⟩ := h.keys
  have := congrArg List.length e
  rw [List.length_map, List.length_map] at this
  omega
theorem lt_of_le_nodup {js : List Int} (h : js.Pairwise (· ≤ ·)) (hn : js.Nodup) : js.Pairwise (· < ·) := by
  have : js.Pairwise fun a b => a ≤ b ∧ a ≠ b := List.Pairwise.and h hn
  exact this.imp fun {a b} z => by omega
end Tc
/-! changes, entries and logs as data; promises of what the program makes of them -/
namespace Tc
open PySem L2 Evl
def goodCh (ks : List Int) : PyData → Bool
  | .tuple [.str s, .int k] => decide (s = "drop") && decide (k ∈ ks)
  | .tuple [.str s, .int k, .int w] => decide (s = "put") && (decide (k ∈ ks) && decide (0 ≤ w ∧ w < 1000))
  | _ => false
def goodEn (ks : List Int) : PyData → Bool
  | .tuple [.str s, .tuple cs] => decide (s = "group") && cs.all (goodCh ks)
  | .tuple [.str s, .int _, .int _] => !decide (s = "group") && PyData.strOk s
  | _ => false
def pairD (r : Int × Int) : PyData := .tuple [.int r.1, .int r.2]
def rowsD (rs : List (Int × Int)) : PyData := .tuple (rs.map pairD)
section
variable {K : PySem.W.Frag} {H H' : Hp} {D : Addr} {kvs : List (Key × V)}
/-- all but the dict at D stays -/
def Bar (D : Addr) (H H' : Hp) : Prop := ∀ a o, a ≠ D → H a = some o → H' a = some o
theorem Bar.refl (D : Addr) (H : Hp) : Bar D H H := fun _ _ _ h => h
theorem Bar.trans {H1 H2 : Hp} (a : Bar D H H1) (b : Bar D H1 H2) : Bar D H H2 := fun x o n h => b x o n (a x o n h)
theorem Bar.ex (e : Ex H H') : Bar D H H' := fun x o _ h => e x o h
/-- a table told by the program: a tuple without a dict, of pairs -/
def TP (K : PySem.W.Frag) (H : Hp) (p : Addr) (rs : List (Int × Int)) : Prop := ∃ xs, PT H p xs ∧ DpAll K H xs (rs.map pairD)
theorem TP.dp {p : Addr} {rs : List (Int × Int)} (h : TP K H p rs) : Dp K H (.ref p) (rowsD rs) := let ⟨_, a, b⟩ := h; .tup a.st b
end
end Tc
/-! tuples of leaves and tuples stay while a list is changed -/
namespace Tc
open PySem L2 Evl
def nl : Nat → PyData → Bool
  | _, .list _ => false
  | 0, .tuple _ => false
  | n + 1, .tuple ds => ds.all (nl n)
  | _, _ => true
section
variable {K : PySem.W.Frag} {H H' : Hp} {b : Addr} {bs : List V}
theorem dps_each : ∀ {ds : List PyData} {vs : List V}, (∀ d ∈ ds, ∀ v, Dp K H v d → Dp K H' v d) → DpAll K H vs ds → DpAll K H' vs ds
  | _, _, _, .nil => .nil
  | _, _, f, .cons h t => .cons (f _ List.mem_cons_self _ h) (dps_each (fun d m => f d (List.mem_cons_of_mem _ m)) t)
theorem nl_ch {ks : List Int} {d : PyData} (h : goodCh ks d = true) : nl 1 d = true := by
  unfold goodCh at h
  split at h
  · rfl
  · rfl
  · cases h
theorem nl_en {ks : List Int} {d : PyData} (h : goodEn ks d = true) : nl 3 d = true := by
  unfold goodEn at h
  split at h
  · rename_i s cs
    rw [Bool.and_eq_true, List.all_eq_true] at h
    show (nl 2 (.str s) && (nl 2 (.tuple cs) && true)) = true
    rw [show nl 2 (.tuple cs) = true from List.all_eq_true.mpr fun d m => nl_ch (h.2 d m)]
    rfl
  · rfl
  · cases h
theorem Bag.lst (h : Bag H b) : ∃ bs, H b = some (.lst bs) := let ⟨_, _, e, _⟩ := h; ⟨_, e⟩
end
end Tc
namespace Tc
open PySem L2 Evl
/-- no tuple stands at b -/
def NT (H : Hp) (b : Addr) : Prop := (∀ xs, H b ≠ some (.tup xs)) ∧ ∀ o u, H b ≠ some (.frz o u)
section
variable {K : PySem.W.Frag} {H H' : Hp} {b : Addr}
theorem NT.set {w : World} {S : Int → Bool} {n : Nat} (h : H b = some (SetO w b S n)) : NT H b := by
  refine ⟨fun xs e => ?_, fun o u e => ?_⟩ <;> · rw [h] at e
                                                 cases e
end
end Tc
/-! enumerate(tuple), enumerate(tuple, start=k) -/
namespace Tc
open PySem PySem.Spec PyProof.Rows L2
end Tc
/-! enumerate(tuple) from 0 -/
namespace Tc
open PySem PySem.Spec PyProof.Rows L2
end Tc
/-! sorted(tuple of ints) -/
namespace Tc
open PySem PySem.Spec PyProof.Rows L2
end Tc
/-! sorted(dict of int keys), of any number -/
namespace Tc
open PySem PySem.Spec PyProof.Rows L2
end Tc
/-! an exception's own __init__ that says super().__init__(..) -/
namespace Tc
open PySem PySem.Spec PyProof.Rows L2
end Tc
namespace Tc
open PySem PySem.Spec PyProof.Rows L2
end Tc
namespace Tc
open PySem PySem.Spec PyProof.Rows L2 NdefX
end Tc
/-! exceptions whose context is None: made, raised, let through -/
namespace Tc
open PySem PySem.Spec PyProof.Rows L2
section
variable {X : Cx}
theorem none_out : L2N.Takes X (fun _ _ _ _ => False) := fun _ _ ⟨_, _, _, _, _, _, _, _, _, _, _, _, _, _, _, _, z⟩ => z.elim
end
end Tc
/-! defs called in an except suite, what is known of the exception handed to them -/
namespace Tc
open PySem PySem.Spec PyProof.Rows L2 L2H
end Tc
/-! a list comprehension in a def that an except suite calls -/
namespace Tc
open PySem PySem.Spec PyProof.Rows L2 L2H
end Tc
/-! a, b = x, y in an except suite -/
namespace Tc
open PySem PySem.Spec PyProof.Rows L2 L2H HotX
end Tc
/-! exceptions of the text: what is known of a class; raised, told apart by their kinds -/
namespace Tc
open PySem L2 L2H PyProof.Rows Evl NdefX
theorem sum_le {l : List Str} (h : ∀ y ∈ l, y.length ≤ 20) : (l.map (·.length)).sum ≤ 20 * l.length := by
  induction l with
  | nil => exact Nat.le_refl _
  | cons a l ih =>
    have h1 := h a List.mem_cons_self
    have h2 := ih fun y m => h y (List.mem_cons_of_mem _ m)
    rw [List.map_cons, List.sum_cons, List.length_cons]
    omega
/-! by looking -/
end Tc
/-! data of a known depth: such data can be compared, and are like themselves -/
namespace Tc
open PySem L2 PyProof.Rows Evl
def sd : Nat → PyData → Bool
  | _, .none => true
  | _, .bool _ => true
  | _, .int _ => true
  | _, .str s => PyData.strOk s
  | n + 1, .list xs => xs.all (sd n)
  | n + 1, .tuple xs => xs.all (sd n)
  | _, _ => false
theorem sd_ok : ∀ (n : Nat) (d : PyData), sd n d = true → PyData.canLay0 d = true ∧ d.depth ≤ n ∧ PyData.eqv d d = true := by
  intro n
  induction n with
  | zero =>
    intro d h
    cases d with
    | none => exact ⟨rfl, Nat.le_refl _, rfl⟩
    | bool b => exact ⟨rfl, Nat.le_refl _, by simp [PyData.eqv]⟩
    | int i => exact ⟨rfl, Nat.le_refl _, by simp [PyData.eqv]⟩
    | str s => exact ⟨h, Nat.le_refl _, by simp [PyData.eqv]⟩
    | list xs => cases h
    | tuple xs => cases h
    | dict xs => cases h
  | succ n ih =>
    have all : ∀ xs : List PyData, xs.all (sd n) = true → PyData.canLayAll0 xs = true ∧ PyData.depthAll xs ≤ n ∧ PyData.eqvAll xs xs = true := by
      intro xs
      induction xs with
      | nil => exact fun _ => ⟨rfl, Nat.zero_le _, rfl⟩
      | cons x xs ihx =>
        intro h
        rw [List.all_cons, Bool.and_eq_true] at h
        obtain ⟨a1, a2, a3⟩ := ih x h.1
        obtain ⟨b1, b2, b3⟩ := ihx h.2
        rw [PyData.canLayAll0, PyData.depthAll, PyData.eqvAll, a1, b1, a3, b3]
        exact ⟨rfl, Nat.max_le.mpr ⟨a2, b2⟩, rfl⟩
    intro d h
    cases d with
    | none => exact ⟨rfl, Nat.zero_le _, rfl⟩
    | bool b => exact ⟨rfl, Nat.zero_le _, by simp [PyData.eqv]⟩
    | int i => exact ⟨rfl, Nat.zero_le _, by simp [PyData.eqv]⟩
    | str s => exact ⟨h, Nat.zero_le _, by simp [PyData.eqv]⟩
    | list xs =>
      obtain ⟨a1, a2, a3⟩ := all xs h
      rw [PyData.canLay0, PyData.depth, PyData.eqv]
      exact ⟨a1, by omega, a3⟩
    | tuple xs =>
      obtain ⟨a1, a2, a3⟩ := all xs h
      rw [PyData.canLay0, PyData.depth, PyData.eqv]
      exact ⟨a1, by omega, a3⟩
    | dict xs => cases h
theorem sd_sh {n : Nat} {d : PyData} (h : sd n d = true) (hn : n ≤ 64) : SeqAt.shaped d = true := by
  obtain ⟨a, b, _⟩ := sd_ok n d h
  unfold SeqAt.shaped
  rw [a, decide_eq_true (Nat.le_trans b hn)]
  rfl
theorem sd_eq {n : Nat} {d : PyData} (h : sd n d = true) : PyData.eqv d d = true := (sd_ok n d h).2.2
theorem sd_rows (rs : List (Int × Int)) : sd 2 (rowsD rs) = true := List.all_eq_true.mpr fun x hx => by
  obtain ⟨i, _, rfl⟩ := List.mem_map.mp hx
  rfl
theorem sd_3 {n : Nat} {d e : PyData} {s : Str} (h1 : sd n d = true) (h2 : PyData.strOk s = true) (h3 : sd n e = true) : sd (n + 1) (.tuple [d, .str s, e]) = true := by
  show (sd n d && (sd n (.str s) && (sd n e && true))) = true
  rw [h1, h3, show sd n (.str s) = true by cases n <;> exact h2]
  rfl
end Tc
/-! len(x) of an object of the program's own, by its __len__ -/
namespace Tc
open PySem PySem.Spec PyProof.Rows L2
end Tc
/-! a field as a target among others: x.f, y = .. -/
namespace Tc
open PySem PySem.Spec PyProof.Rows L2
end Tc
/-! d.update(d2) -/
namespace Tc
open PySem PySem.Spec PyProof.Rows L2
end Tc
/-! a tuple that is written, known to have no dict of its own -/
namespace Tc
open PySem PySem.Spec PyProof.Rows L2
end Tc
/-! defs with names behind a star that may let an exception out; a part of a tuple that has no dict -/
namespace Tc
open PySem PySem.Spec PyProof.Rows L2
end Tc
/-! methods that may let an exception out; a caught exception's fields, its kind among several, in a def that an except suite calls -/
namespace Tc
open PySem PySem.Spec PyProof.Rows L2 L2H
end Tc
/-! an exception of the text without an __init__ of its own; an own class whose __init__ may let an exception out -/
namespace Tc
open PySem PySem.Spec PyProof.Rows L2 L2H
end Tc
/-! what the top leaves, looked at once: defs, classes, exceptions -/
namespace Tc
open PySem PySem.Spec PyProof.Rows L2 He
def rfsO (g : Addr → Option Obj) (a : Addr) : List Addr := match g a with
  | some o => (match o.data with
    | .seq its _ => its.toList.flatMap refV
    | .dict es _ => es.toList.flatMap fun e => refV e.val
    | .func fd => refV fd.code ++ (refV fd.defaults ++ (refV fd.kwdefaults ++ fd.closure.map (·.2)))
    | .cls cd => cd.ns :: cd.mro.flatMap refV
    | _ => [])
  | none => []
/-- by steps from what is known -/
def reach (g : Addr → Option Obj) : Nat → List Addr → List Addr → List Addr
  | 0, seen, fr => seen ++ fr
  | n + 1, seen, fr => reach g n (seen ++ fr) (((fr.flatMap (rfsO g)).eraseDups).filter fun a => !(seen.contains a || fr.contains a))
abbrev FnC : Type := Option (Str × Str × Arguments × FuncBody × Scope × Addr × List Str × Addr)
def xcW (K : PySem.W.Frag) (x : Str) : FnC := match K.lookup (ma K (ga K x) "__init__") with
  | some ⟨_, _, .func fd, _⟩ => some (fd.name, fd.qualname, fd.params, fd.body, fd.scope, fd.globals, fd.closure.map (·.1), fd.builtins)
  | _ => none
/-- an exception's own __init__ -/
structure XcD where
  cls : Str
  qual : Str
  params : Arguments
  body : List Stmt
  scope : Scope
def XcD.val (d : XcD) : FnC := some ("__init__", d.qual, d.params, .stmts d.body, d.scope, mainGlobals, ["__class__"], builtinsNs)
/-! ### the look -/
abbrev AlM : Type := Bool × List FnW × List FnC
def obsM (fs : List (PySem.W.Frag → Bool)) (fn : List DefD) (xs : List XcD) (K : PySem.W.Frag) : AlM := ((fs.all fun f => f K) && fn.all fun d => d.ok K, fn.map (fun d => fnW K d.at_), xs.map fun x => xcW K x.cls)
def valM (fn : List DefD) (xs : List XcD) : AlM := (true, fn.map DefD.val, xs.map XcD.val)
def SaysM (fs : List (PySem.W.Frag → Bool)) (fn : List DefD) (xs : List XcD) (K : PySem.W.Frag) : Prop := obsM fs fn xs K = valM fn xs
def obsMG (n : Nat) (fs : List (PySem.W.Frag → Bool)) (fn : List DefD) (xs : List XcD) (g : Addr → Option Obj) : AlM := obsM fs fn xs (frG g (reach g n [cStatics] [mainGlobals]))
def hookM (n : Nat) (fs : List (PySem.W.Frag → Bool)) (fn : List DefD) (xs : List XcD) : PySem.W.Hook where
  α := AlM
  obs := fun s => obsMG n fs fn xs s.heap.get?
  val := fun _ => valM fn xs
  says := fun _ h => ∃ K : PySem.W.Frag, K.In h ∧ SaysM fs fn xs K
  of := fun _ _ e => ⟨_, frG_in, e⟩
  keeps := fun _ _ _ ⟨K, hK, c⟩ k => ⟨K, PySem.W.Frag.In.keeps hK k, c⟩
theorem obsMG_eq {n : Nat} {fs : List (PySem.W.Frag → Bool)} {fn : List DefD} {xs : List XcD} {g : Addr → Option Obj} {s : Shared} (h : ∀ a, g a = s.heap.get? a) : obsMG n fs fn xs g = (hookM n fs fn xs).obs s := by
  have e : g = s.heap.get? := funext h
  rw [e] <;> rfl
section
variable {fs : List (PySem.W.Frag → Bool)} {fn : List DefD} {xs : List XcD} {K : PySem.W.Frag}
theorem SaysM.fact (c : SaysM fs fn xs K) (i : Nat) {f : PySem.W.Frag → Bool} (h : fs[i]? = some f := by rfl) : f K = true := by
  have c1 := (ba (show ((fs.all fun f => f K) && fn.all fun d => d.ok K) = true from congrArg (fun z : AlM => z.1) c)).1
  exact List.all_eq_true.mp c1 f (List.mem_of_getElem? h)
theorem SaysM.def_ (c : SaysM fs fn xs K) (i : Nat) {d : DefD} (h : fn[i]? = some d := by rfl) : ∃ fd, FunD K d.name d.qual d.params d.body d.scope (d.dvs K) (d.kws K) (fAd K d.at_) fd := by
  have c2 := (ba (show ((fs.all fun f => f K) && fn.all fun d => d.ok K) = true from congrArg (fun z : AlM => z.1) c)).2
  have e : fn.map (fun d => fnW K d.at_) = fn.map DefD.val := congrArg (fun z : AlM => z.2.1) c
  have e2 : (fn.map fun d => fnW K d.at_)[i]? = (fn.map DefD.val)[i]? := by rw [e]
  rw [List.getElem?_map, List.getElem?_map, h] at e2
  exact DefD.funD (Option.some.inj e2) (List.all_eq_true.mp c2 d (List.mem_of_getElem? h))
end
/-- a def without defaults by places -/
theorem fun_of {K : PySem.W.Frag} {x qual : Str} {st : Stmt} {kws : List (Str × V)} {f : Addr} {fd : FuncData} (F : FunD K x qual (defArgs st) (defBody st) (defScope st) [] kws f fd) : Fun K x qual st f fd := by
  obtain ⟨oc, od, dV, kV, doc, pm, an, cdv, ct, osl, e, lk, hcd, hD, _⟩ := F.ex
  rcases hD with ⟨_, rfl⟩ | ⟨n, _⟩
  · exact ⟨⟨oc, od, kV, doc, pm, an, cdv, ct, osl, e, lk, hcd⟩, F.kp⟩
  · exact absurd rfl n
end Tc
/-! the top's run looked at in parts -/
namespace Tc
open PySem PySem.Spec PyProof.Rows L2 He HandSHeadRun PySem.W
theorem obsM_app (fs1 fs2 : List (PySem.W.Frag → Bool)) (fn1 fn2 : List DefD) (xs : List XcD) (K : PySem.W.Frag) (h1 : obsM fs1 fn1 xs K = valM fn1 xs) (h2 : obsM fs2 fn2 [] K = valM fn2 []) : obsM (fs1 ++ fs2) (fn1 ++ fn2) xs K = valM (fn1 ++ fn2) xs := by
  have a1 := congrArg (fun z : AlM => z.1) h1
  have a2 := congrArg (fun z : AlM => z.2.1) h1
  have a3 := congrArg (fun z : AlM => z.2.2) h1
  have b1 := congrArg (fun z : AlM => z.1) h2
  have b2 := congrArg (fun z : AlM => z.2.1) h2
  obtain ⟨c1, c2⟩ := ba (show ((fs1.all fun f => f K) && fn1.all fun d => d.ok K) = true from a1)
  obtain ⟨d1, d2⟩ := ba (show ((fs2.all fun f => f K) && fn2.all fun d => d.ok K) = true from b1)
  refine Prod.ext ?_ (Prod.ext ?_ a3)
  · show (((fs1 ++ fs2).all fun f => f K) && (fn1 ++ fn2).all fun d => d.ok K) = true
    rw [List.all_append, List.all_append, c1, c2, d1, d2]
    rfl
  · show (fn1 ++ fn2).map (fun d => fnW K d.at_) = (fn1 ++ fn2).map DefD.val
    rw [List.map_append, List.map_append]
    exact congr (congrArg _ a2) b2
theorem run_parts {r : OpenRow} {q : Program} {n M : Nat} {loose : List PySem.Str} {w : World} {fs1 fs2 : List (PySem.W.Frag → Bool)} {fn1 fn2 : List DefD} {xs : List XcD}
    (hA : ∀ os : OsState, (endF (stepQ (denQ tabQ) r.prog w) M r.prog w os).map (fun s => (looksF r.prog (boot_heap w.params) s.abs, seenQ q loose (importedModules r.prog.main.body) (fun s => xlAt q [] s && recOk r.toRowW.records s) s.abs)) = some (true, openGood q loose))
    (hB : ∀ os : OsState, (endF (stepQ (denQ tabQ) r.prog w) M r.prog w os).map (fun s => obsMG n fs1 fn1 xs (getT s)) = some (valM fn1 xs))
    (hC : ∀ os : OsState, (endF (stepQ (denQ tabQ) r.prog w) M r.prog w os).map (fun s => obsMG n fs2 fn2 [] (getT s)) = some (valM fn2 [])) :
    RunEq r q (hookM n (fs1 ++ fs2) (fn1 ++ fn2) xs) (fun s => obsMG n (fs1 ++ fs2) (fn1 ++ fn2) xs (getT s)) M loose w := fun os => by
  obtain ⟨s, e, a⟩ := Option.map_eq_some_iff.mp (hA os)
  have b := hB os
  have c := hC os
  rw [e] at b c
  rw [e]
  have b' : obsMG n fs1 fn1 xs (getT s) = valM fn1 xs := Option.some.inj b
  have c' : obsMG n fs2 fn2 [] (getT s) = valM fn2 [] := Option.some.inj c
  obtain ⟨a1, a2⟩ := Prod.mk.inj a
  refine congrArg some (Prod.ext a1 (Prod.ext a2 ?_))
  exact obsM_app fs1 fs2 fn1 fn2 xs _ b' c'
end Tc
set_option maxHeartbeats 0
namespace K42r
open PySem L2 PyProof.Rows Tc
def topS (i : Nat) : Stmt := PySem.Challenge.pw_tidecopy_k42_tables_as_texts.main.body.getD i (.Pass ⟨0, 0, 0, 0⟩)
def fileN : Str := PySem.Challenge.pw_tidecopy_k42_tables_as_texts.main.file
def hfs1 : List (PySem.W.Frag → Bool) := [fun K => (He.Fa.glo "is_number").ok K,
  fun K => (He.Fa.glo "is_key").ok K,
  fun K => (He.Fa.glo "is_worth").ok K,
  fun K => (He.Fa.glo "is_row").ok K,
  fun K => (He.Fa.glo "is_rows").ok K,
  fun K => (He.Fa.glo "is_table").ok K,
  fun K => (He.Fa.glo "listed").ok K,
  fun K => (He.Fa.glo "rows_text").ok K,
  fun K => (He.Fa.glo "table_text").ok K,
  fun K => (He.Fa.glo "read_number").ok K,
  fun K => (He.Fa.glo "read_numbers").ok K,
  fun K => (He.Fa.glo "read_table").ok K,
  fun K => (He.Fa.glo "_law_bag").ok K,
  fun K => (He.Fa.glo "_law_take").ok K,
  fun K => (He.Fa.glo "_law_within").ok K,
  fun K => (He.Fa.glo "_law_keys").ok K,
  fun K => (He.Fa.glo "_law_table").ok K,
  fun K => (He.Fa.glo "_law_is_pair").ok K,
  fun K => (He.Fa.glo "_law_are_pairs").ok K,
  fun K => (He.Fa.glo "_law_is_table").ok K,
  fun K => (He.Fa.glo "_law_table_line").ok K,
  fun K => (He.Fa.glo "_law_no_text").ok K]
def hfs2 : List (PySem.W.Frag → Bool) := [fun K => (He.Fa.glo "law").ok K,
  fun K => (He.Fa.free "isinstance").ok K,
  fun K => (He.Fa.free "int").ok K,
  fun K => (He.Fa.free "bool").ok K,
  fun K => (He.Fa.free "tuple").ok K,
  fun K => (He.Fa.free "list").ok K,
  fun K => (He.Fa.free "str").ok K,
  fun K => (He.Fa.free "len").ok K,
  fun K => (He.Fa.free "set").ok K,
  fun K => (He.Fa.free "sorted").ok K,
  fun K => (He.Fa.free "range").ok K,
  fun K => (He.Fa.free "abs").ok K,
  fun K => (He.Fa.free "min").ok K,
  fun K => (He.Fa.free "max").ok K,
  fun K => (He.Fa.free "dict").ok K,
  fun K => (He.Fa.free "all").ok K,
  fun K => (He.Fa.free "ValueError").ok K,
  fun K => (He.Fa.int "KEYS" 1000).ok K,
  fun K => (He.Fa.int "WORTHS" 1000).ok K,
  fun K => (He.Fa.int "MOST_FIGURES" 12).ok K,
  fun K => (He.Fa.int "MOST_ROWS" 100).ok K,
  fun K => (He.Fa.glo "NoText").ok K]
def hfn1 : List He.DefD := [⟨("is_number", none), "is_number", "is_number", defArgs (topS 32), defBody (topS 32), defScope (topS 32), [], []⟩,
  ⟨("is_key", none), "is_key", "is_key", defArgs (topS 33), defBody (topS 33), defScope (topS 33), [], []⟩,
  ⟨("is_worth", none), "is_worth", "is_worth", defArgs (topS 34), defBody (topS 34), defScope (topS 34), [], []⟩,
  ⟨("is_row", none), "is_row", "is_row", defArgs (topS 35), defBody (topS 35), defScope (topS 35), [], []⟩,
  ⟨("is_rows", none), "is_rows", "is_rows", defArgs (topS 36), defBody (topS 36), defScope (topS 36), [], []⟩,
  ⟨("is_table", none), "is_table", "is_table", defArgs (topS 37), defBody (topS 37), defScope (topS 37), [], []⟩,
  ⟨("listed", none), "listed", "listed", defArgs (topS 47), defBody (topS 47), defScope (topS 47), [], []⟩,
  ⟨("rows_text", none), "rows_text", "rows_text", defArgs (topS 48), defBody (topS 48), defScope (topS 48), [], []⟩,
  ⟨("table_text", none), "table_text", "table_text", defArgs (topS 49), defBody (topS 49), defScope (topS 49), [], []⟩,
  ⟨("read_number", none), "read_number", "read_number", defArgs (topS 50), defBody (topS 50), defScope (topS 50), [], []⟩,
  ⟨("read_numbers", none), "read_numbers", "read_numbers", defArgs (topS 51), defBody (topS 51), defScope (topS 51), [], []⟩]
def hfn2 : List He.DefD := [⟨("read_table", none), "read_table", "read_table", defArgs (topS 52), defBody (topS 52), defScope (topS 52), [], []⟩,
  ⟨("_law_bag", none), "_law_bag", "_law_bag", defArgs (topS 59), defBody (topS 59), defScope (topS 59), [], []⟩,
  ⟨("_law_take", none), "_law_take", "_law_take", defArgs (topS 60), defBody (topS 60), defScope (topS 60), [], []⟩,
  ⟨("_law_within", none), "_law_within", "_law_within", defArgs (topS 61), defBody (topS 61), defScope (topS 61), [], []⟩,
  ⟨("_law_keys", none), "_law_keys", "_law_keys", defArgs (topS 63), defBody (topS 63), defScope (topS 63), [], []⟩,
  ⟨("_law_table", none), "_law_table", "_law_table", defArgs (topS 64), defBody (topS 64), defScope (topS 64), [], []⟩,
  ⟨("_law_is_pair", none), "_law_is_pair", "_law_is_pair", defArgs (topS 65), defBody (topS 65), defScope (topS 65), [], []⟩,
  ⟨("_law_are_pairs", none), "_law_are_pairs", "_law_are_pairs", defArgs (topS 66), defBody (topS 66), defScope (topS 66), [], []⟩,
  ⟨("_law_is_table", none), "_law_is_table", "_law_is_table", defArgs (topS 67), defBody (topS 67), defScope (topS 67), [], []⟩,
  ⟨("_law_table_line", none), "_law_table_line", "_law_table_line", defArgs (topS 68), defBody (topS 68), defScope (topS 68), [], []⟩,
  ⟨("_law_no_text", none), "_law_no_text", "_law_no_text", defArgs (topS 69), defBody (topS 69), defScope (topS 69), [], []⟩,
  ⟨("law", none), "law", "law", defArgs (topS 70), defBody (topS 70), defScope (topS 70), [], []⟩]
abbrev hfs : List (PySem.W.Frag → Bool) := hfs1 ++ hfs2
abbrev hfn : List He.DefD := hfn1 ++ hfn2
def hxs : List XcD := []
abbrev R : PySem.W.OpenRow := PySem.W.OpenLaw.row PySem.Challenge.rw_tidecopy_k42_tables_as_texts
abbrev hk : PySem.W.Hook := hookM 5 hfs hfn hxs
def ob (s : PySem.W.SharedT) : AlM := obsMG 5 hfs hfn hxs (HandSHeadRun.getT s)
theorem ob_eq (s : PySem.W.SharedT) : ob s = hk.obs s.abs := obsMG_eq (HandSHeadRun.getT_eq s)
def loose : List Str := (["TideError", "ToldError", "AskedError", "NoTable", "NoChange", "NoStretch", "NoRows", "NoName", "NoText", "NoRow", "TooMany", "Twice", "NoPlace", "NoLife", "NoReading", "Ended", "NotEnded", "Held", "Trimmed", "Waits", "NotAsked", "NoKey", "NotSure", "NoTaker", "NotOnWire", "NothingLeft", "KEYS", "WORTHS", "MOST_ROWS", "MOST_CHANGES", "is_number", "is_key", "is_worth", "is_row", "is_rows", "is_table", "is_change", "is_group", "MOST_FIGURES", "LONGEST_NAME", "PARTS", "is_name", "is_part", "is_step", "listed", "rows_text", "table_text", "read_number", "read_numbers", "read_table", "read_change", "read_part", "read_step", "read_steps", "read_line", "_law_bag", "_law_take", "_law_within", "_law_kinds", "_law_keys", "_law_table", "_law_is_pair", "_law_are_pairs", "_law_is_table", "_law_table_line", "_law_no_text"] : List String).map Str.ofString
end K42r
set_option maxHeartbeats 0
namespace K42r
open PySem L2 PyProof.Rows Tc
noncomputable abbrev endAt (w : World) (os : OsState) : Option PySem.W.SharedT := HandSHeadRun.endF (HandSHeadRun.stepQ (HandSHeadRun.denQ HandSHeadRun.tabQ) R.prog w) 20000 R.prog w os
def tyrA (w : World) : Prop := ∀ os : OsState, (endAt w os).map (fun s => (HandSHeadRun.looksF R.prog (PySem.W.boot_heap w.params) s.abs, HandSHeadRun.seenQ (PySem.W.view R.prog [70]) loose (importedModules R.prog.main.body) (fun s => PySem.W.xlAt (PySem.W.view R.prog [70]) [] s && PySem.W.recOk R.toRowW.records s) s.abs)) = some (true, PySem.W.openGood (PySem.W.view R.prog [70]) loose)
theorem runA0 (w : World) (os : OsState) : (endAt (w.withFollow "special-get-raises" false) os).map (fun s => (HandSHeadRun.looksF R.prog (PySem.W.boot_heap (w.withFollow "special-get-raises" false).params) s.abs, HandSHeadRun.seenQ (PySem.W.view R.prog [70]) loose (importedModules R.prog.main.body) (fun s => PySem.W.xlAt (PySem.W.view R.prog [70]) [] s && PySem.W.recOk R.toRowW.records s) s.abs)) = some (true, PySem.W.openGood (PySem.W.view R.prog [70]) loose) := by kernel_rfl
theorem runA1 (w : World) (os : OsState) : (endAt (w.withFollow "special-get-raises" true) os).map (fun s => (HandSHeadRun.looksF R.prog (PySem.W.boot_heap (w.withFollow "special-get-raises" true).params) s.abs, HandSHeadRun.seenQ (PySem.W.view R.prog [70]) loose (importedModules R.prog.main.body) (fun s => PySem.W.xlAt (PySem.W.view R.prog [70]) [] s && PySem.W.recOk R.toRowW.records s) s.abs)) = some (true, PySem.W.openGood (PySem.W.view R.prog [70]) loose) := by kernel_rfl
theorem runA (w : World) : tyrA w := PySem.W.byRow2 (P := tyrA) "special-get-raises" (fun w => runA0 w) (fun w => runA1 w) w
def tyrB (w : World) : Prop := ∀ os : OsState, (endAt w os).map (fun s => obsMG 5 hfs1 hfn1 hxs (HandSHeadRun.getT s)) = some (valM hfn1 hxs)
theorem runB0 (w : World) (os : OsState) : (endAt (w.withFollow "special-get-raises" false) os).map (fun s => obsMG 5 hfs1 hfn1 hxs (HandSHeadRun.getT s)) = some (valM hfn1 hxs) := by kernel_rfl
theorem runB1 (w : World) (os : OsState) : (endAt (w.withFollow "special-get-raises" true) os).map (fun s => obsMG 5 hfs1 hfn1 hxs (HandSHeadRun.getT s)) = some (valM hfn1 hxs) := by kernel_rfl
theorem runB (w : World) : tyrB w := PySem.W.byRow2 (P := tyrB) "special-get-raises" (fun w => runB0 w) (fun w => runB1 w) w
def tyrC (w : World) : Prop := ∀ os : OsState, (endAt w os).map (fun s => obsMG 5 hfs2 hfn2 [] (HandSHeadRun.getT s)) = some (valM hfn2 [])
theorem runC0 (w : World) (os : OsState) : (endAt (w.withFollow "special-get-raises" false) os).map (fun s => obsMG 5 hfs2 hfn2 [] (HandSHeadRun.getT s)) = some (valM hfn2 []) := by kernel_rfl
theorem runC1 (w : World) (os : OsState) : (endAt (w.withFollow "special-get-raises" true) os).map (fun s => obsMG 5 hfs2 hfn2 [] (HandSHeadRun.getT s)) = some (valM hfn2 []) := by kernel_rfl
theorem runC (w : World) : tyrC w := PySem.W.byRow2 (P := tyrC) "special-get-raises" (fun w => runC0 w) (fun w => runC1 w) w
theorem run (w : World) : HandSHeadRun.RunEq R (PySem.W.view R.prog [70]) hk ob 20000 loose w := run_parts (runA w) (runB w) (runC w)
end K42r
/-! methods that may let an exception out: without a thing handed in, with names behind a star; a class made of nothing -/
namespace Tc
open PySem PySem.Spec PyProof.Rows L2 L2H
end Tc
/-! an object while its fields are laid -/
namespace Tc
open PySem L2 Evl
/-- the object at p on its way: what stood at H0 stays, what came is told in nw -/
structure Ini (C dx p : Addr) (H0 : Hp) (fs : List (Str × V)) (nw : List (Addr × HO)) (H : Hp) : Prop where
  ob : H p = some (.ins C dx fs)
  bb : ∀ a o, a ≠ p → H0 a = some o → H a = some o
  fr : ∀ a, H a = none → H0 a = none
  nws : ∀ q ∈ nw, H q.1 = some q.2 ∧ H0 q.1 = none ∧ q.1 ≠ p
  nd : (nw.map (·.1)).Nodup
section
variable {C dx p : Addr} {H0 H H' : Hp} {fs : List (Str × V)} {nw : List (Addr × HO)}
theorem Ini.ex (I : Ini C dx p H0 fs nw H) (x : Ex H H') : Ini C dx p H0 fs nw H' := ⟨x _ _ I.ob, fun a o n h => x _ _ (I.bb a o n h), fun a h => I.fr a (fresh_back x h), fun q m => ⟨x _ _ (I.nws q m).1, (I.nws q m).2⟩, I.nd⟩
theorem Ini.new {d : Addr} {o : HO} (I : Ini C dx p H0 fs nw H) (hd : H d = none) (x : Ex H H') (h : H' d = some o) : Ini C dx p H0 fs ((d, o) :: nw) H' := by
  have J := I.ex x
  refine ⟨J.ob, J.bb, J.fr, fun q m => ?_, ?_⟩
  · rcases List.mem_cons.mp m with rfl | m
    · refine ⟨h, I.fr d hd, fun z => ?_⟩
      have := I.ob
      rw [← z, hd] at this
      cases this
    · exact J.nws q m
  · rw [List.map_cons]
    refine List.nodup_cons.mpr ⟨fun m => ?_, I.nd⟩
    obtain ⟨q, mq, e⟩ := List.mem_map.mp m
    have := (I.nws q mq).1
    rw [e, hd] at this
    cases this
variable {K : PySem.W.Frag} {D : Ends} {σ : L2.St} {te : TE} {v : V} {f : Str} {i : Nat}
end
end Tc
/-! a house: its fields and what they hold -/
namespace Tc
open PySem L2 Evl
def hfl (dW dK : Addr) (fk lg bg : Int) (dL dR : Addr) : List (Str × V) := [("worths", .ref dW), ("kept", .ref dK), ("first_kept", .int fk), ("lives_given", .int lg), ("begun", .int bg), ("living", .ref dL), ("running", .ref dR)]
/-- a house at p -/
structure HsAt (C : Addr) (H : Hp) (p dW dK dL dR : Addr) (kvs : List (Key × V)) (kept : List V) (fk lg bg : Int) (liv run : List (Key × V)) : Prop where
  ob : ∃ dx, H p = some (.ins C dx (hfl dW dK fk lg bg dL dR))
  wo : H dW = some (.dK kvs)
  ke : H dK = some (.lst kept)
  li : H dL = some (.dK liv)
  ru : H dR = some (.dK run)
  n1 : dW ≠ dL
  n2 : dW ≠ dR
  n3 : dL ≠ dR
section
variable {C : Addr} {H H' : Hp} {p dW dK dL dR : Addr} {kvs : List (Key × V)} {kept : List V} {fk lg bg : Int} {liv run : List (Key × V)}
theorem HsAt.ex (S : HsAt C H p dW dK dL dR kvs kept fk lg bg liv run) (x : Ex H H') : HsAt C H' p dW dK dL dR kvs kept fk lg bg liv run :=
  ⟨let ⟨dx, h⟩ := S.ob; ⟨dx, x _ _ h⟩, x _ _ S.wo, x _ _ S.ke, x _ _ S.li, x _ _ S.ru, S.n1, S.n2, S.n3⟩
end
end Tc
/-! tuples stay -/
namespace Tc
open PySem L2 Evl
def Kt (H H' : Hp) : Prop := ∀ a u, (∃ xs, u = .tup xs ∨ ∃ o, u = .frz o (.tup xs)) → H a = some u → H' a = some u
theorem Kt.ex {H H' : Hp} (x : Ex H H') : Kt H H' := fun a u _ h => x a u h
theorem Kt.trans {H H1 H2 : Hp} (x : Kt H H1) (y : Kt H1 H2) : Kt H H2 := fun a u k h => y a u k (x a u k h)
section
variable {K : PySem.W.Frag} {H H' : Hp}
theorem Kt.t {a : Addr} {xs : List V} (e : Kt H H') (h : SqT K H a xs) : SqT K H' a xs := by
  rcases h with (h | ⟨o, h⟩) | h
  · exact .inl (.inl (e a _ ⟨xs, .inl rfl⟩ h))
  · exact .inl (.inr ⟨o, e a _ ⟨xs, .inr ⟨o, rfl⟩⟩ h⟩)
  · exact .inr h
theorem Kt.dp (e : Kt H H') : ∀ (n : Nat) (d : PyData) (v : V), nl n d = true → Dp K H v d → Dp K H' v d
  | 0, d, v, g, h => by
    cases h with
    | non => exact .non
    | bl b => exact .bl b
    | int i => exact .int i
    | str x => exact .str x
    | lst => cases g
    | tup => cases g
  | n + 1, d, v, g, h => by
    cases h with
    | non => exact .non
    | bl b => exact .bl b
    | int i => exact .int i
    | str x => exact .str x
    | lst => cases g
    | tup hs r => exact .tup (e.t hs) (dps_each (fun d m v => Kt.dp e n d v (List.all_eq_true.mp g d m)) r)
theorem Kt.dps (e : Kt H H') {n : Nat} {ds : List PyData} {vs : List V} (g : ∀ d ∈ ds, nl n d = true) (h : DpAll K H vs ds) : DpAll K H' vs ds := dps_each (fun d m v => e.dp n d v (g d m)) h
end
theorem Kt.fr {b : Addr} {H H' : Hp} (hB : Bag H b) (f : Fr b H H') : Kt H H' := fun a u k h => f.at h fun z => by
  obtain ⟨x, y, hb, _⟩ := hB
  rw [z, hb] at h
  obtain ⟨xs, rfl | ⟨o, rfl⟩⟩ := k <;> cases h
/-- all but what is no tuple -/
theorem Kt.but {H H' : Hp} (P : Addr → Prop) (h : ∀ a, P a → ∃ o, H a = some o ∧ (∀ xs, o ≠ .tup xs) ∧ ∀ o' xs, o ≠ .frz o' (.tup xs)) (e : ∀ a o, ¬ P a → H a = some o → H' a = some o) : Kt H H' := fun a u k ha => by
  refine e a u (fun z => ?_) ha
  obtain ⟨o, ho, n1, n2⟩ := h a z
  rw [ha] at ho
  obtain ⟨xs, rfl | ⟨o', rfl⟩⟩ := k
  · exact n1 xs (Option.some.inj ho).symm
  · exact n2 o' xs (Option.some.inj ho).symm
end Tc
/-! what is collected, in its order; a drawn table's rows rise with the keys -/
namespace Tc
open PySem L2 Evl PyProof.Rows
structure ColW (b : Addr) (K : PySem.W.Frag) (W : Nat → List PyData → Prop) (H : Hp) (D : Addr) (i : Nat) (H' : Hp) : Prop where
  fr : Fr b H H'
  new : H D = none
  ne : D ≠ b
  ex : ∃ (vs : List V) (ds : List PyData), H' D = some (.lst vs) ∧ DpAll K (hid D (hid b H')) vs ds ∧ vs.length ≤ i ∧ W i ds
section
variable {b D : Addr} {K : PySem.W.Frag} {W : Nat → List PyData → Prop} {H H' H4 : Hp} {i : Nat} {y : V} {d : PyData}
theorem ColW.start (hB : Bag H b) (hD : H D = none) (w : W 0 []) : ColW b K W H D 0 (upd H D (.lst [])) := ⟨Fr.new hB hD, hD, hB.ne hD, [], [], upd_same, .nil, Nat.le_refl _, w⟩
theorem ColW.skip (c : ColW b K W H D i H') (f : Fr b H' H4) (w : ∀ ds, W i ds → W (i + 1) ds) : ColW b K W H D (i + 1) H4 := by
  obtain ⟨vs, ds, h1, h2, h3, h4⟩ := c.ex
  exact ⟨c.fr.trans f, c.new, c.ne, vs, ds, f.at h1 c.ne, dps_same (same_hid f.sm) _ _ h2, Nat.le_succ_of_le h3, w _ h4⟩
theorem ColW.push (c : ColW b K W H D i H') (f : Fr b H' H4) (hy : Dp K (hid D (hid b H4)) y d) (w : ∀ ds, W i ds → W (i + 1) (ds ++ [d])) (hi : i < 10000) : ∃ acc, H4 D = some (.lst acc) ∧ acc.length < sizeLine ∧ ColW b K W H D (i + 1) (upd H4 D (.lst (acc ++ [y]))) := by
  obtain ⟨vs, ds, h1, h2, h3, h4⟩ := c.ex
  refine ⟨vs, f.at h1 c.ne, sz_lt (by omega), Fr.mut (c.fr.trans f) c.new c.ne, c.new, c.ne, vs ++ [y], ds ++ [d], upd_same, ?_, by rw [List.length_append]; exact Nat.succ_le_succ h3, w _ h4⟩
  rw [hid_upd2 _ _ c.ne]
  exact dps_app (dps_same (same_hid f.sm) _ _ h2) (.cons hy .nil)
theorem ColW.at (c : ColW b K W H D i H') : H' D ≠ none := by
  obtain ⟨vs, ds, h1, _⟩ := c.ex
  exact fun z => by
    rw [h1] at z
    cases z
end
theorem lt_take {ks : List Int} {i : Nat} {kk x : Int} (pw : ks.Pairwise (· < ·)) (h : ks[i]? = some kk) (m : x ∈ ks.take i) : x < kk := by
  have e : ks.take (i + 1) = ks.take i ++ [kk] := by
    rw [List.take_succ, h]
    rfl
  have p := pw.sublist (List.take_sublist (i + 1) ks)
  rw [e] at p
  exact (List.pairwise_append.mp p).2.2 x m kk (List.mem_singleton_self _)
def rowsUp (ks : List Int) (i : Nat) (ds : List PyData) : Prop := ∃ rs : List (Int × Int), ds = rs.map pairD ∧ (∀ r ∈ rs, r.1 ∈ ks.take i ∧ 0 ≤ r.2 ∧ r.2 < 1000) ∧ (ks.Pairwise (· < ·) → rs.Pairwise fun a b => a.1 < b.1)
theorem rowsUp.skip {ks : List Int} {i : Nat} {ds : List PyData} (h : rowsUp ks i ds) : rowsUp ks (i + 1) ds := by
  obtain ⟨rs, e, h1, h2⟩ := h
  refine ⟨rs, e, fun r m => ⟨?_, (h1 r m).2⟩, h2⟩
  have := (h1 r m).1
  rw [List.take_succ]
  exact List.mem_append_left _ this
theorem rowsUp.push {ks : List Int} {i : Nat} {ds : List PyData} {kk w : Int} (h : rowsUp ks i ds) (hk : ks[i]? = some kk) (hw : 0 ≤ w ∧ w < 1000) : rowsUp ks (i + 1) (ds ++ [pairD (kk, w)]) := by
  obtain ⟨rs, e, h1, h2⟩ := h
  refine ⟨rs ++ [(kk, w)], by rw [e, List.map_append]; rfl, fun r m => ?_, fun pw => List.pairwise_append.mpr ⟨h2 pw, List.pairwise_singleton _ _, fun a ma c mc => ?_⟩⟩
  · rw [List.take_succ, hk]
    rcases List.mem_append.mp m with m | m
    · exact ⟨List.mem_append_left _ (h1 r m).1, (h1 r m).2⟩
    · rw [List.mem_singleton.mp m]
      exact ⟨List.mem_append_right _ (List.mem_singleton_self _), hw⟩
  · rw [List.mem_singleton.mp mc]
    exact lt_take pw hk (h1 a ma).1
end Tc
/-! draws in tests and in ranges -/
namespace Tc
open PySem L2 Evl
end Tc
/-! a house and its readings, as they stand and as they are told -/
namespace Tc
open PySem L2 Evl
/-- all keys -/
def allKs : List Int := (List.range 1000).map fun (i : Nat) => (i : Int)
theorem allKs_len : allKs.length = 1000 := by unfold allKs; rw [List.length_map, List.length_range]
theorem allKs_mem {k : Int} (h0 : 0 ≤ k) (h1 : k < 1000) : k ∈ allKs := List.mem_map.mpr ⟨k.toNat, List.mem_range.mpr (by omega), by omega⟩
def opV : Option Int → V
  | some z => .int z
  | none => .non
/-- the lives, each with the place that it holds -/
def lvV (l : List (Int × Option Int)) : List (Key × V) := l.map fun r => (.inl r.1, opV r.2)
/-- a reading -/
structure Rdg where
  num : Int
  own : Int
  lo : Int
  hi : Int
  found : List (Int × Int)
  ended : Bool
/-- a reading that is one -/
structure RgOk (x : Rdg) : Prop where
  a : 0 ≤ x.lo
  b : x.lo < x.hi
  c : x.hi ≤ 1000
  f : ∀ r ∈ x.found, 0 ≤ r.1 ∧ r.1 < 1000
  g : x.found.Pairwise fun a b => a.1 < b.1
/-- a house -/
structure HM where
  f : Int → Option Int
  log : List PyData
  fk : Nat
  lg : Nat
  bg : Nat
  liv : List (Int × Option Int)
  run : List Rdg
def rfd (own : Int) (st fl : Addr) (en : Bool) : List (Str × V) := [("owner", .int own), ("stretch", .ref st), ("found", .ref fl), ("ended", .bl en)]
/-- a reading at r, its rows at fl -/
structure RdAt (K : PySem.W.Frag) (R : Addr) (H : Hp) (r fl : Addr) (x : Rdg) : Prop where
  ob : ∃ dx st, H r = some (.ins R dx (rfd x.own st fl x.ended)) ∧ SqT K H st [.int x.lo, .int x.hi]
  fo : ∃ vs, H fl = some (.lst vs) ∧ DpAll K H vs (x.found.map pairD)
theorem RdAt.keep {K : PySem.W.Frag} {R : Addr} {H H' : Hp} {r fl : Addr} {x : Rdg} (h : RdAt K R H r fl x) (e1 : ∀ o, H r = some o → H' r = some o) (e2 : ∀ o, H fl = some o → H' fl = some o) (kt : Kt H H') : RdAt K R H' r fl x := by
  obtain ⟨⟨dx, st, h1, h2⟩, vs, h3, h4⟩ := h
  exact ⟨⟨dx, st, e1 _ h1, kt.t h2⟩, vs, e2 _ h3, kt.dps (n := 1) (fun d m => by
    obtain ⟨r, _, rfl⟩ := List.mem_map.mp m
    rfl) h4⟩
def rnV (l : List (Rdg × Addr × Addr)) : List (Key × V) := l.map fun t => (.inl t.1.num, .ref t.2.1)
/-- what the house holds as its own -/
def fpL (p dW dK dL dR : Addr) (l : List (Rdg × Addr × Addr)) : List Addr := p :: dW :: dK :: dL :: dR :: l.flatMap fun t => [t.2.1, t.2.2]
structure HsB (K : PySem.W.Frag) (C R : Addr) (H : Hp) (p dW dK dL dR : Addr) (kvs : List (Key × V)) (kept : List V) (l : List (Rdg × Addr × Addr)) (m : HM) : Prop where
  at' : HsAt C H p dW dK dL dR kvs kept m.fk m.lg m.bg (lvV m.liv) (rnV l)
  di : DI allKs kvs m.f
  lo : DpAll K H kept m.log
  go : ∀ d ∈ m.log, goodEn allKs d = true
  lv : m.liv.Pairwise fun x y => x.1 < y.1
  lb : ∀ r ∈ m.liv, 1 ≤ r.1 ∧ r.1 ≤ m.lg
  rn : l.map (·.1) = m.run
  rp : m.run.Pairwise fun x y => x.num < y.num
  rb : ∀ x ∈ m.run, 0 ≤ x.num ∧ x.num < m.bg
  rk : ∀ x ∈ m.run, RgOk x
  rd : ∀ t ∈ l, RdAt K R H t.2.1 t.2.2 t.1
  nd : (fpL p dW dK dL dR l).Nodup
/-- a house at p that holds just X -/
def HsM (K : PySem.W.Frag) (C R : Addr) (H : Hp) (p : Addr) (m : HM) (X : Addr → Prop) : Prop := ∃ dW dK dL dR kvs kept l, HsB K C R H p dW dK dL dR kvs kept l m ∧ ∀ a, X a ↔ a ∈ fpL p dW dK dL dR l
def Off (X : Addr → Prop) (H H' : Hp) : Prop := ∀ a o, ¬ X a → H a = some o → H' a = some o
theorem Off.ex {X : Addr → Prop} {H H' : Hp} (x : Ex H H') : Off X H H' := fun a o _ h => x a o h
theorem Off.trans {X : Addr → Prop} {H H1 H2 : Hp} (a : Off X H H1) (b : Off X H1 H2) : Off X H H2 := fun x o n h => b x o n (a x o n h)
/-- what stands behind a call: the house is m' now, all else stays -/
def HOut (K : PySem.W.Frag) (C R : Addr) (H : Hp) (p : Addr) (X : Addr → Prop) (m' : HM) (H' : Hp) : Prop := ∃ X', HsM K C R H' p m' X' ∧ Off X H H' ∧ ∀ a, X' a → X a ∨ H a = none
section
variable {K : PySem.W.Frag} {C R : Addr} {H H' : Hp} {p dW dK dL dR : Addr} {kvs : List (Key × V)} {kept : List V} {l : List (Rdg × Addr × Addr)} {m : HM} {X : Addr → Prop}
theorem fp_p : p ∈ fpL p dW dK dL dR l := List.mem_cons_self
theorem fp_W : dW ∈ fpL p dW dK dL dR l := List.mem_cons_of_mem _ List.mem_cons_self
theorem fp_K : dK ∈ fpL p dW dK dL dR l := List.mem_cons_of_mem _ (List.mem_cons_of_mem _ List.mem_cons_self)
theorem fp_L : dL ∈ fpL p dW dK dL dR l := List.mem_cons_of_mem _ (List.mem_cons_of_mem _ (List.mem_cons_of_mem _ List.mem_cons_self))
theorem fp_R : dR ∈ fpL p dW dK dL dR l := List.mem_cons_of_mem _ (List.mem_cons_of_mem _ (List.mem_cons_of_mem _ (List.mem_cons_of_mem _ List.mem_cons_self)))
theorem fp_r {t : Rdg × Addr × Addr} (h : t ∈ l) : t.2.1 ∈ fpL p dW dK dL dR l ∧ t.2.2 ∈ fpL p dW dK dL dR l := by
  have g : ∀ a ∈ [t.2.1, t.2.2], a ∈ fpL p dW dK dL dR l := fun a ha => List.mem_cons_of_mem _ (List.mem_cons_of_mem _ (List.mem_cons_of_mem _ (List.mem_cons_of_mem _ (List.mem_cons_of_mem _ (List.mem_flatMap.mpr ⟨t, h, ha⟩)))))
  exact ⟨g _ List.mem_cons_self, g _ (List.mem_cons_of_mem _ List.mem_cons_self)⟩
/-- what is its own stays, and tuples: then the house does -/
theorem HsB.keep (S : HsB K C R H p dW dK dL dR kvs kept l m) (e : ∀ a o, a ∈ fpL p dW dK dL dR l → H a = some o → H' a = some o) (kt : Kt H H') : HsB K C R H' p dW dK dL dR kvs kept l m := by
  obtain ⟨dx, hp⟩ := S.at'.ob
  refine ⟨⟨⟨dx, e _ _ fp_p hp⟩, e _ _ fp_W S.at'.wo, e _ _ fp_K S.at'.ke, e _ _ fp_L S.at'.li, e _ _ fp_R S.at'.ru, S.at'.n1, S.at'.n2, S.at'.n3⟩, S.di, kt.dps (fun d m => nl_en (S.go d m)) S.lo, S.go, S.lv, S.lb, S.rn, S.rp, S.rb, S.rk, fun t mt => ?_, S.nd⟩
  exact (S.rd t mt).keep (fun o h => e _ _ (fp_r mt).1 h) (fun o h => e _ _ (fp_r mt).2 h) kt
theorem HsM.keep (S : HsM K C R H p m X) (e : ∀ a o, X a → H a = some o → H' a = some o) (kt : Kt H H') : HsM K C R H' p m X := by
  obtain ⟨dW, dK, dL, dR, kvs, kept, l, B, fx⟩ := S
  exact ⟨dW, dK, dL, dR, kvs, kept, l, B.keep (fun a o h => e a o ((fx a).mpr h)) kt, fx⟩
theorem HsM.ex (S : HsM K C R H p m X) (x : Ex H H') : HsM K C R H' p m X := S.keep (fun a o _ h => x a o h) (Kt.ex x)
theorem HsM.fr {b : Addr} (S : HsM K C R H p m X) (hB : Bag H b) (f : Fr b H H') (n : ¬ X b) : HsM K C R H' p m X := S.keep (fun a o h z => f.at z fun y => n (y ▸ h)) (Kt.fr hB f)
theorem HOut.refl (S : HsM K C R H p m X) : HOut K C R H p X m H := ⟨X, S, fun _ _ _ h => h, fun _ h => .inl h⟩
end
end Tc
/-! raising, said once -/
namespace Tc
open PySem L2 L2H PyProof.Rows Evl NdefX
end Tc
/-! xs += ys of lists; range by twos -/
namespace Tc
open PySem PySem.Spec PyProof.Rows L2
end Tc
namespace K42
open PySem L2 PyProof.Rows Tc Evl
def topS (i : Nat) : Stmt := PySem.Challenge.pw_tidecopy_k42_tables_as_texts.main.body.getD i (.Pass ⟨0, 0, 0, 0⟩)
/-- what the module's names hold -/
structure Names (mg : Str → Option Value) : Prop where
  isinstance : mg "isinstance" = none
  int : mg "int" = none
  bool : mg "bool" = none
  tuple : mg "tuple" = none
  list : mg "list" = none
  str : mg "str" = none
  len : mg "len" = none
  set : mg "set" = none
  sorted : mg "sorted" = none
  range : mg "range" = none
  abs : mg "abs" = none
  min : mg "min" = none
  max : mg "max" = none
  dict : mg "dict" = none
  all : mg "all" = none
  ve : mg "ValueError" = none
  KEYS : ∃ t, mg "KEYS" = some (.int 1000 t)
  WORTHS : ∃ t, mg "WORTHS" = some (.int 1000 t)
end K42
namespace K42
open PySem L2 PyProof.Rows Tc Evl
section
variable {P : Program} {w : World} {K : PySem.W.Frag} {mg : Str → Option Value} {base : Heap}
abbrev sTake : Stmt := topS 60
theorem scTake : FnScope ["bag", "many", "found"] ["bag", "many"] (defScope sTake) := ⟨rfl, rfl, rfl, by decide +kernel, rfl, by decide +kernel, by decide +kernel⟩
theorem ok_take {f : Addr} {fd : FuncData} {k : Nat} (F : Fun K "_law_take" "_law_take" sTake f fd) : FnOk P w K mg base CX0 (k + 1) f fd ["bag", "many"] spTake := by
  refine F.ok scTake (fun vs H Q E h => ?_) (fun cdv A outer s H vs Q E hr h => ?_)
  · obtain ⟨b, m, rfl, _⟩ := h
    rfl
  · obtain ⟨b, m, rfl, ⟨x, y, hb, hx, hy, hz⟩, hm, hm2, q⟩ := h
    refine ⟨_, pss_cons (ps_if (pt_cmpR op_gt (pe_ix ix_list (pv 0) pe_int (fun _ _ => rfl)) pe_int (nomark _))
        (pss_cons (ps_set (i := 2) scTake.nd rfl (.inl rfl) (pe_op op_mod (pe_ix ix_list (pv 0) pe_int (fun _ _ => rfl)) (pv 1)))
        (pss_cons (ps_asg (pe_op op_fdiv (pe_ix ix_list (pv 0) pe_int (fun _ _ => rfl)) (pv 1)) (pg_sub (pv 0) pe_int set_list))
        (pss_one (ps_ret (pv 2))))) pss_nil)
      (pss_cons (ps_asg (pe_op op_mod (pe_op op_mul (pe_ix ix_list (pv 0) pe_int (fun _ _ => rfl)) pe_int) pe_int) (pg_sub (pv 0) pe_int set_list))
      (pss_one (ps_ret (pe_op op_mod (pe_op op_fdiv (pe_op op_mod (pe_op op_mul (pe_ix ix_list (pv 0) pe_int (fun _ _ => rfl)) (pe_ix ix_list (pv 0) pe_int (fun _ _ => rfl))) pe_int) pe_int) (pv 1))))), ?_⟩
    have hS : SqL K H b [.int x, .int y] := sq_of hb
    refine s_if (et_test (ev_op (ev_l0 (ev_var rfl) hS) ev_c rv_I0)) (fun e H1 x1 => ?_) (fun e H1 x1 => ?_)
    · refine s_seq (s_asg (ev_op (ev_l0 (ev_var rfl) (ex_l x1 hS)) (ev_var rfl) (rv_mod hm)) fun H2 x2 => s_seq ?_)
      refine s_setL (l := b) (j := 0) (x2 b _ (x1 b _ hb)) (ev_op (ev_l0 (ev_var rfl) (ex_l (x1.trans x2) hS)) (ev_var rfl) (rv_fdiv hm hm2)) (ev_var rfl) ev_c (by simp) fun H3 x3 => ?_
      refine s_ret (ev_var rfl) fun H4 x4 => q _ _ ((Fr.put ((x1.trans x2).trans x3) (Int.ediv_nonneg hx (by omega)) hy hz).trans (Fr.ex ?_ x4)) (Int.emod_nonneg _ (by omega)) (Int.emod_lt_of_pos _ hm)
      exact ⟨x / m, y, upd_same, Int.ediv_nonneg hx (by omega), hy, hz⟩
    · have hS1 := ex_l x1 hS
      refine s_next (s_seq (s_setL (l := b) (j := 1) (x1 b _ hb) (ev_op (ev_op (ev_l1 (ev_var rfl) hS1) ev_c (rv_mul (.inl ⟨by omega, by omega⟩))) ev_c (rv_mod (by decide))) (ev_var rfl) ev_c (by simp) fun H2 x2 => ?_))
      have y1 := Int.emod_nonneg (y * 48271) (b := 2147483647) (by decide)
      have y2 := Int.emod_lt_of_pos (y * 48271) (b := 2147483647) (by decide)
      generalize hyy : y * 48271 % 2147483647 = yy at y1 y2
      have hb2 : (upd H2 b (.lst [.int x, .int yy])) b = some (.lst [.int x, .int yy]) := upd_same
      have hB : Bag (upd H2 b (.lst [.int x, .int yy])) b := ⟨x, yy, upd_same, hx, y1, by omega⟩
      have hS2 : SqL K (upd H2 b (.lst [.int x, .int yy])) b [.int x, .int yy] := sq_of upd_same
      refine s_ret (ev_op (ev_op (ev_op (ev_op (ev_l1 (ev_var rfl) hS2) (ev_l1 (ev_var rfl) hS2) (rv_mul (.inl ⟨by omega, by omega⟩))) ev_c (rv_mod (by decide))) ev_c (rv_fdiv (by decide) (by decide))) (ev_var rfl) (rv_mod hm)) fun H4 x4 => ?_
      exact q _ _ ((Fr.put (x1.trans x2) hx y1 (by omega)).trans (Fr.ex hB x4)) (Int.emod_nonneg _ (by omega)) (Int.emod_lt_of_pos _ hm)
abbrev sBag : Stmt := topS 59
theorem scBag : FnScope ["script", "k", "cell"] ["script", "k"] (defScope sBag) := ⟨rfl, rfl, rfl, by decide +kernel, rfl, by decide +kernel, by decide +kernel⟩
theorem ok_bag {f : Addr} {fd : FuncData} {k : Nat} (F : Fun K "_law_bag" "_law_bag" sBag f fd) (N : Names mg) : FnOk P w K mg base CX0 (k + 1) f fd ["script", "k"] (spBag K) := by
  refine F.ok scBag (fun vs H Q E h => ?_) (fun cdv A outer s H vs Q E hr h => ?_)
  · obtain ⟨a, ns, k, rfl, _⟩ := h
    rfl
  · obtain ⟨a, ns, n, rfl, hS, hn, q⟩ := h
    refine ⟨_, pss_cons (ps_set (i := 2) scBag.nd rfl (.inl rfl) pe_int)
      (Evl.pss_cut (ps_if (pt_cmpR op_lt (pv 1) (pe_callB call_len_seq (by rfl) N.len PySem.boot_len (pa_cons (pv 0) pa_nil)) (nomark _)) (pss_one (ps_set (i := 2) scBag.nd rfl (.inl rfl) (pe_callB call_abs (by rfl) N.abs boot_abs (pa_cons (pe_ix ix_list (pv 0) (pv 1) (fun _ _ => rfl)) pa_nil)))) pss_nil)
      (pss_cons (ps_if (pt_cmpR op_lt (pv 2) (pe_op op_pow pe_int pe_int) (nomark _)) (pss_one (ps_ret (pe_lst (pa_cons pe_int (pa_cons (pe_op op_add pe_int (pe_op op_mod (pe_op op_add (pe_op op_mul (pv 2) pe_int) (pe_op op_mul pe_int (pv 1))) pe_int)) pa_nil))))) pss_nil)
      (pss_one (ps_ret (pe_lst (pa_cons (pv 2) (pa_cons (pe_op op_add pe_int (pe_op op_mod (pe_op op_add (pv 2) (pv 1)) pe_int)) pa_nil))))))), ?_⟩
    refine s_seq (s_asg ev_c fun H1 x1 => ⟨fun σ' H' => ∃ c : Int, σ' = [some (.ref a), some (.int (n : Int)), some (.int c)] ∧ Ex H H' ∧ 0 ≤ c, ?_, fun σ' H' m => ?_⟩)
    · refine s_if (et_test (ev_op (ev_var rfl) (ev_len (ev_var rfl) (ex_l x1 hS)) rv_I0)) (fun e H2 x2 => ?_) (fun e H2 x2 => ⟨0, rfl, x1.trans x2, by decide⟩)
      have e1 := of_decide_eq_true e
      rw [List.length_map] at e1
      have hlt : n < ns.length := by omega
      have hx : (ns.map V.int)[n]? = some (.int ns[n]) := by
        rw [List.getElem?_map, List.getElem?_eq_getElem hlt]
        rfl
      refine s_asg (ev_abs (ev_lx (ev_var rfl) (ev_var rfl) (ex_l (x1.trans x2) hS) hx)) fun H3 x3 => ⟨_, rfl, (x1.trans x2).trans x3, ?_⟩
      split <;> omega
    · obtain ⟨c, rfl, xx, hc⟩ := m
      refine s_seq (s_if (et_test (ev_op (ev_var rfl) (ev_op ev_c ev_c (rv_pow ⟨by decide, by decide, by decide⟩)) rv_I0)) (fun e H2 x2 => ?_) (fun e H2 x2 => s_next ?_))
      · refine s_retL (el_lst (ea_cons ev_c (ea_cons (ev_op ev_c (ev_op (ev_op (ev_op (ev_var rfl) ev_c (rv_mul (.inr ⟨by decide, by decide⟩))) (ev_op ev_c (ev_var rfl) (rv_mul (.inl ⟨by decide, by decide⟩))) rv_add) ev_c (rv_mod (by decide))) rv_add) ea_nil)) (by simp)) fun p H3 hp x3 hb => ?_
        have y1 := Int.emod_nonneg (c * 7919 + 104729 * (n : Int)) (b := 2147483646) (by decide)
        have y2 := Int.emod_lt_of_pos (c * 7919 + 104729 * (n : Int)) (b := 2147483646) (by decide)
        exact q p H3 (fresh_back (xx.trans x2) hp) ((xx.trans x2).trans x3) ⟨_, _, hb, by decide, by omega, by omega⟩
      · refine s_retL (el_lst (ea_cons (ev_var rfl) (ea_cons (ev_op ev_c (ev_op (ev_op (ev_var rfl) (ev_var rfl) rv_add) ev_c (rv_mod (by decide))) rv_add) ea_nil)) (by simp)) fun p H3 hp x3 hb => ?_
        have y1 := Int.emod_nonneg (c + (n : Int)) (b := 2147483646) (by decide)
        have y2 := Int.emod_lt_of_pos (c + (n : Int)) (b := 2147483646) (by decide)
        exact q p H3 (fresh_back (xx.trans x2) hp) ((xx.trans x2).trans x3) ⟨_, _, hb, hc, by omega, by omega⟩
end
def once (ks : List Int) : List Int := ((List.range 1000).map Int.ofNat).filter (fun k => decide (k ∈ ks))
theorem once_pw (ks : List Int) : (once ks).Pairwise (· < ·) := by
  unfold once
  refine List.Pairwise.filter _ (List.pairwise_map.mpr ?_)
  exact List.pairwise_lt_range.imp fun h => Int.ofNat_lt.mpr h
theorem once_mem (ks : List Int) (hb : ∀ k ∈ ks, 0 ≤ k ∧ k < 1000) (k : Int) : k ∈ once ks ↔ k ∈ ks := by
  unfold once
  rw [List.mem_filter, decide_eq_true_eq]
  refine ⟨fun h => h.2, fun h => ⟨?_, h⟩⟩
  have := hb k h
  exact List.mem_map.mpr ⟨k.toNat, List.mem_range.mpr (by omega), by
    show ((k.toNat : Nat) : Int) = k
    omega⟩
theorem once_len (ks : List Int) : (once ks).length ≤ 1000 := by
  unfold once
  refine Nat.le_trans (List.length_filter_le _ _) ?_
  rw [List.length_map, List.length_range]
  exact Nat.le_refl _
theorem once_few (ks : List Int) (hb : ∀ k ∈ ks, 0 ≤ k ∧ k < 1000) : (once ks).length ≤ ks.length := len_sub ((once_pw ks).imp fun {a b} z e => by omega) fun x m => (once_mem ks hb x).mp m
def spKeysR : Sp := fun vs H Q _ => ∃ b : Addr, vs = [.ref b] ∧ Bag H b ∧ ∀ l (ks : List Int) H', Tc.Fr b H H' → KeysAt b H' l ks → ks.length < 64 → ks.Pairwise (· < ·) → Q (.ref l) H'
def spTabR (K : PySem.W.Frag) : Sp := fun vs H Q _ => ∃ (b l : Addr) (ks : List Int), vs = [.ref b, .ref l] ∧ Bag H b ∧ KeysAt b H l ks ∧ ∀ p rs H', Tc.Fr b H H' → TP K H' p rs → (∀ r ∈ rs, r.1 ∈ ks) → (∀ r ∈ rs, 0 ≤ r.2 ∧ r.2 < 1000) → rs.length ≤ ks.length → (ks.Pairwise (· < ·) → rs.Pairwise fun a b => a.1 < b.1) → Q (.ref p) H'
section
variable {P : Program} {w : World} {K : PySem.W.Frag} {mg : Str → Option Value} {base : Heap}
theorem dpt2 {H : Hp} {v : V} {d0 d1 : PyData} (h : Dp K H v (.tuple [d0, d1])) : ∃ a x0 x1, v = .ref a ∧ SqT K H a [x0, x1] ∧ Dp K H x0 d0 ∧ Dp K H x1 d1 := by
  cases h with
  | tup hs r =>
    cases r with
    | cons h0 r =>
      cases r with
      | cons h1 r =>
        cases r
        exact ⟨_, _, _, rfl, hs, h0, h1⟩
theorem g_name {i : Nat} {v : V} {σ : L2.St} {H : Hp} {Q : L2.St → Hp → Prop} (h : Q (σ.set i (some v)) H) : gName i v σ H Q := h
theorem t_asg {te : TE} {g : TG} {D : Ends} {σ : L2.St} {H : Hp} (h : te σ H fun x H1 => g x σ H1 D.nx) : tAsg te g D σ H := h
abbrev sKeys : Stmt := topS 63
theorem scKeys : FnScope ["bag", "step", "first", "at"] ["bag"] (defScope sKeys) := ⟨rfl, rfl, rfl, by decide +kernel, rfl, by decide +kernel, by decide +kernel⟩
theorem ok_keys {f : Addr} {fd : FuncData} {k : Nat} (F : Fun K "_law_keys" "_law_keys" sKeys f fd) (N : Names mg) (dT : Own P w K mg base "_law_take" ["bag", "many"] k spTake) : FnOk P w K mg base CX0 (k + 1) f fd ["bag"] spKeysR := by
  refine F.ok scKeys (fun vs H Q E h => ?_) (fun cdv A outer s H vs Q E hr h => ?_)
  · obtain ⟨b, rfl, _⟩ := h
    rfl
  · obtain ⟨b, rfl, hB, q⟩ := h
    refine ⟨_, pss_cons (ps_set (i := 1) scKeys.nd rfl (.inr rfl) (pe_ix ix_list (pe_lst (pa_cons pe_int (pa_cons pe_int (pa_cons pe_int (pa_cons pe_int pa_nil))))) (pe_own dT hr (Nat.le_refl _) (by rfl) (pa_cons (pv 0) (pa_cons pe_int pa_nil))) (fun _ _ => rfl)))
      (pss_cons (ps_set (i := 2) scKeys.nd rfl (.inr rfl) (pe_own dT hr (Nat.le_refl _) (by rfl) (pa_cons (pv 0) (pa_cons (pe_op op_sub pe_int (pe_op op_mul pe_int (pv 1))) pa_nil))))
      (pss_one (ps_ret (pe_callB (cr_sortedSetA rfl) (by rfl) N.sorted boot_sorted (pa_cons (pe_callTy (cr_setL rfl) (by rfl) N.set boot_set (pa_cons (pe_op op_cat (pe_lc (own := [("at", 3)]) (g := gName 3) (tt := tYes) (te := tOp (rI0 fun i j => .int (i + j)) (tVar 2) (tOp (rI CMul fun i j => .int (i * j)) (tVar 1) (tVar 3))) rfl scKeys.nd
          (pi_range1 rfl N.range (pa_cons pe_int pa_nil)) (blkOk_by (N := ["bag", "step", "first", "at"]) (sc := defScope sKeys) (by decide +kernel)) (fun _ _ _ _ _ => pg_name (i := 3) scKeys.nd rfl (Or.inl rfl)) (fun _ _ _ _ _ => pts_nil) (fun _ _ _ _ _ => pe_op op_add (pv 2) (pe_op op_mul (pv 1) (pv 3))))
        (pe_lst (pa_cons pe_int (pa_cons pe_int pa_nil)))) pa_nil)) pa_nil))))), ?_⟩
    refine s_seq (item_new (b := b) (xs := [.int 1, .int 2, .int 7, .int 90]) (el_lst (ea_cons ev_c (ea_cons ev_c (ea_cons ev_c (ea_cons ev_c ea_nil)))) (by simp)) hB (fun H1 f1 Q q => take_of (m := 4) f1.bag (ea_cons (ev_var rfl) (ea_cons ev_c ea_nil)) (by decide) (by decide) q) fun v H1 f1 hv => ?_)
    obtain ⟨st, rfl, hst⟩ : ∃ st : Int, v = .int st ∧ (st = 1 ∨ st = 2 ∨ st = 7 ∨ st = 90) := by
      simp only [List.mem_cons, List.not_mem_nil, or_false] at hv
      rcases hv with h | h | h | h <;> exact ⟨_, h, by simp⟩
    refine s_seq (take_of (b := b) (m := 1000 - 9 * st) f1.bag (ea_cons (ev_var rfl) (ea_cons (ev_op ev_c (ev_op ev_c (ev_var rfl) (rv_mul (.inl ⟨by decide, by decide⟩))) rv_sub) ea_nil)) (by omega) (by omega) fun r H2 f2 h0 h1 => ?_)
    have hks : ((List.range 10).map fun (i : Nat) => V.int (r + st * (i : Int))) ++ [V.int 0, V.int 999] = (((List.range 10).map fun (i : Nat) => r + st * (i : Int)) ++ [0, 999]).map V.int := by
      rw [List.map_append, List.map_map]
      rfl
    have hb : ∀ k ∈ ((List.range 10).map fun (i : Nat) => r + st * (i : Int)) ++ [0, 999], 0 ≤ k ∧ k < 1000 := fun k m => by
      rcases List.mem_append.mp m with m | m
      · obtain ⟨i, hi, rfl⟩ := List.mem_map.mp m
        have := List.mem_range.mp hi
        rcases hst with h | h | h | h <;> subst h <;> omega
      · simp only [List.mem_cons, List.not_mem_nil, or_false] at m
        omega
    refine s_retL (el_sortset (ns := ((List.range 10).map fun (i : Nat) => r + st * (i : Int)) ++ [0, 999]) (ms := once (((List.range 10).map fun (i : Nat) => r + st * (i : Int)) ++ [0, 999])) (el_is (el_cat (xs := (List.range 10).map fun (i : Nat) => V.int (r + st * (i : Int))) (el_is (el_lcR1 (n := 10) (fun _ => true) (fun i => V.int (r + st * (i : Int))) (ea_cons ev_c ea_nil) (by decide) (fun x => rfl) (fun i H1 e hi => et_yes)
      (fun i H1 e hi _ => ev_op (ev_var rfl) (ev_op (ev_var rfl) (ev_var rfl) (rv_mul (.inl ?_))) rv_add)) (given_all _ _)) (el_lst (ea_cons ev_c (ea_cons ev_c ea_nil)) (by simp)) (by simp)) hks) (by simp) fun l h3 h4 => rising_one l _ h3 (once_pw _) fun k => (h4 k).trans (once_mem _ hb k).symm) fun p H3 hp x3 h3 => ?_
    · rcases hst with h | h | h | h <;> subst h <;> decide
    · exact q p _ H3 ((f1.trans f2).trans (Fr.ex f2.bag x3)) ⟨f2.bag.ne hp, h3, fun k m => hb k ((once_mem _ hb k).mp m), once_len _, List.length_pos_of_mem ((once_mem _ hb 0).mpr (by simp))⟩ (Nat.lt_of_le_of_lt (once_few _ hb) (by simp)) (once_pw _)
-- sOf
abbrev sTab : Stmt := topS 64
theorem scTab : FnScope ["bag", "keys", "key"] ["bag", "keys"] (defScope sTab) := ⟨rfl, rfl, rfl, by decide +kernel, rfl, by decide +kernel, by decide +kernel⟩
theorem ok_tab {f : Addr} {fd : FuncData} {k : Nat} (F : Fun K "_law_table" "_law_table" sTab f fd) (N : Names mg) (dT : Own P w K mg base "_law_take" ["bag", "many"] k spTake) : FnOk P w K mg base CX0 (k + 1) f fd ["bag", "keys"] (spTabR K) := by
  refine F.ok scTab (fun vs H Q E h => ?_) (fun cdv A outer s H vs Q E hr h => ?_)
  · obtain ⟨b, l, ks, rfl, _⟩ := h
    rfl
  · obtain ⟨b, l, ks, rfl, hB, hka, q⟩ := h
    have hl := hka.h
    have hlb := hka.ne
    have hk := hka.bd
    have hn := hka.few
    refine ⟨_, pss_one (ps_ret (pe_callTy cr_tupP (by rfl) N.tuple boot_tuple (pa_cons (pe_lc (own := [("key", 2)]) (g := gName 2) (tt := tTest (tOp (rI0 fun i j => .bl (decide (j < i))) (tCall spTake [] E0 (tCons (tVar 0) (tCons (tC (.int 3)) tNil))) (tC (.int 0))))
        (te := tTup (tCons (tVar 2) (tCons (tCall spTake [] E0 (tCons (tVar 0) (tCons (tC (.int 1000)) tNil))) tNil))) rfl scTab.nd (pi_list (pv 1)) (blkOk_by (N := ["bag", "keys", "key"]) (sc := defScope sTab) (by decide +kernel)) (fun _ _ _ _ _ => pg_name (i := 2) scTab.nd rfl (Or.inl rfl))
        (fun _ _ _ _ _ => pts_one (pt_cmpR op_gt (pe_own dT hr (Nat.le_refl _) (by rfl) (pa_cons (pv 0) (pa_cons pe_int pa_nil))) pe_int (nomark _)))
        (fun _ _ _ _ _ => pe_tup (pa_cons (pv 2) (pa_cons (pe_own dT hr (Nat.le_refl _) (by rfl) (pa_cons (pv 0) (pa_cons pe_int pa_nil))) pa_nil)))) pa_nil))), ?_⟩
    refine ⟨.ref l, rfl, l, rfl, ⟨_, sq_of hl⟩, fun D hD => ?_⟩
    refine lc_list (K := K) (xs := ks.map V.int) (ColW b K (rowsUp ks) H D) (ColW.start hB hD ⟨[], rfl, fun r m => (by cases m), fun _ => .nil⟩) (fun i H' _ c => sq_of (c.fr.at hl hlb)) (fun i x H' hx c => ⟨rfl, ?_⟩) (fun H' c => ?_)
    · rw [List.getElem?_map] at hx
      obtain ⟨kk, hkk, rfl⟩ := Option.map_eq_some_iff.mp hx
      have hi : i < ks.length := (List.getElem?_eq_some_iff.mp hkk).1
      refine take_of (b := b) (m := 3) c.fr.bag (ea_cons (ev_var rfl) (ea_cons ev_c ea_nil)) (by decide) (by decide) fun r H1 f1 r0 r1 => ⟨r, 0, rfl, rfl, _, rfl, ite2 (fun e => ?_) (fun e => c.skip f1 fun _ h => h.skip)⟩
      refine ⟨.int kk, rfl, take_of (b := b) (m := 1000) f1.bag (ea_cons (ev_var rfl) (ea_cons ev_c ea_nil)) (by decide) (by decide) fun r2 H2 f2 r3 r4 => ⟨sz_of (by simp), fun p hp => ?_⟩⟩
      exact c.push ((f1.trans f2).trans (Fr.new f2.bag hp)) (dp_pair f2.bag (c.skip (f1.trans f2) fun _ h => h.skip).at hp) (fun _ h => h.push hkk ⟨r3, r4⟩) (by omega)
    · rw [List.length_map] at c
      obtain ⟨vs, ds, h1, h2, h3, rs, rfl, hr', hu⟩ := c.ex
      have rl : rs.length ≤ ks.length := by
        have := dps_len h2
        rw [List.length_map] at this
        omega
      exact ⟨D, vs, rfl, sq_of h1, fun t o ht od => q t rs _ (c.fr.trans (Fr.new c.fr.bag ht)) ⟨vs, ⟨o, upd_same, od⟩, dps_same (Ex.new ht) _ _ (dps_same (hid_same b _) _ _ (dps_same (hid_same D _) _ _ h2))⟩ (fun r m => List.mem_of_mem_take (hr' r m).1) (fun r m => (hr' r m).2) rl hu⟩
-- sLCh
end
end K42
namespace K42b
open PySem L2 PyProof.Rows Tc
/-! ### the text -/
def topS (i : Nat) : Stmt := PySem.Challenge.pw_tidecopy_k42_tables_as_texts.main.body.getD i (.Pass ⟨0, 0, 0, 0⟩)
abbrev sNum : Stmt := topS 32
abbrev sKey : Stmt := topS 33
abbrev sWorth : Stmt := topS 34
abbrev sRow : Stmt := topS 35
abbrev sRows : Stmt := topS 36
abbrev sTable : Stmt := topS 37
theorem scNum : FnScope ["thing"] ["thing"] (defScope sNum) := ⟨rfl, rfl, rfl, by decide +kernel, rfl, by decide +kernel, by decide +kernel⟩
theorem scKey : FnScope ["thing"] ["thing"] (defScope sKey) := ⟨rfl, rfl, rfl, by decide +kernel, rfl, by decide +kernel, by decide +kernel⟩
theorem scWorth : FnScope ["thing"] ["thing"] (defScope sWorth) := ⟨rfl, rfl, rfl, by decide +kernel, rfl, by decide +kernel, by decide +kernel⟩
theorem scRow : FnScope ["thing"] ["thing"] (defScope sRow) := ⟨rfl, rfl, rfl, by decide +kernel, rfl, by decide +kernel, by decide +kernel⟩
theorem scRows : FnScope ["thing", "first", "last", "least", "row"] ["thing", "first", "last"] (defScope sRows) := ⟨rfl, rfl, rfl, by decide +kernel, rfl, by decide +kernel, by decide +kernel⟩
theorem scTable : FnScope ["thing"] ["thing"] (defScope sTable) := ⟨rfl, rfl, rfl, by decide +kernel, rfl, by decide +kernel, by decide +kernel⟩
/-- what the module's names hold -/
structure Names (mg : Str → Option Value) : Prop where
  isinstance : mg "isinstance" = none
  int : mg "int" = none
  bool : mg "bool" = none
  tuple : mg "tuple" = none
  list : mg "list" = none
  str : mg "str" = none
  len : mg "len" = none
  set : mg "set" = none
  sorted : mg "sorted" = none
  range : mg "range" = none
  abs : mg "abs" = none
  min : mg "min" = none
  max : mg "max" = none
  ve : mg "ValueError" = none
  KEYS : ∃ t, mg "KEYS" = some (.int 1000 t)
  WORTHS : ∃ t, mg "WORTHS" = some (.int 1000 t)
  MOST_ROWS : ∃ t, mg "MOST_ROWS" = some (.int 100 t)
/-! ### the mathematics -/
def isNum : PyData → Bool
  | .int _ => true | _ => false
theorem isNum_eq (d : PyData) : isNum d = (isInt d && !isBool d) := by cases d <;> rfl
def isKey : PyData → Bool
  | .int i => decide (0 ≤ i) && decide (i < 1000) | _ => false
def isRow : PyData → Bool
  | .tuple [k, w] => isKey k && isKey w | _ => false
def keyOf : PyData → Int
  | .tuple (.int k :: _) => k | _ => 0
def rising : Int → List PyData → Bool
  | _, [] => true
  | least, d :: r => isRow d && decide (least ≤ keyOf d) && rising (keyOf d + 1) r
def isTable : PyData → Bool
  | .tuple ds => decide (ds.length ≤ 100) && rising 0 ds | _ => false
section
open Evl
variable {P : Program} {w : World} {K : PySem.W.Frag} {mg : Str → Option Value} {base : Heap}
theorem ok_num {f : Addr} {fd : FuncData} {k : Nat} (F : Fun K "is_number" "is_number" sNum f fd) (N : Names mg) : FnOk P w K mg base CX0 (k + 1) f fd ["thing"] (spTold K isNum) := by
  refine F.ok scNum (fun vs H Q E h => ?_) (fun cdv A outer s H vs Q E hr h => ?_)
  · obtain ⟨v, d, rfl, _⟩ := h
    rfl
  · obtain ⟨v, d, rfl, hd, q⟩ := h
    refine ⟨_, pss_one (ps_ret (pe_and (pe_callB call_isi (by rfl) N.isinstance boot_isinstance (pa_cons (pv 0) (pa_cons (pe_bltn (v := .ty "int") (by rfl) N.int boot_int rfl) pa_nil)))
      (pe_one (pe_not (pe_callB call_isi (by rfl) N.isinstance boot_isinstance (pa_cons (pv 0) (pa_cons (pe_bltn (v := .ty "bool") (by rfl) N.bool boot_bool rfl) pa_nil))))))), ?_⟩
    rw [isNum_eq] at q
    exact s_ret (ev_andV (ev_int (ev_var rfl) hd) fun _ => ev_notV (ev_bool (ev_var rfl) hd)) q
theorem num_int {H : Hp} {v : V} {d : PyData} (h : Dp K H v d) (e : isNum d = true) : ∃ i, v = .int i ∧ d = .int i := by
  cases h with
  | int i => exact ⟨i, rfl, rfl⟩
  | _ => cases e
theorem key_eq (d : PyData) : (isNum d && isKey d) = isKey d := by cases d <;> rfl
theorem ok_key {f : Addr} {fd : FuncData} {k : Nat} (F : Fun K "is_key" "is_key" sKey f fd) (N : Names mg) (dN : Own P w K mg base "is_number" ["thing"] k (spTold K isNum)) : FnOk P w K mg base CX0 (k + 1) f fd ["thing"] (spTold K isKey) := by
  refine F.ok scKey (fun vs H Q E h => ?_) (fun cdv A outer s H vs Q E hr h => ?_)
  · obtain ⟨v, d, rfl, _⟩ := h
    rfl
  · obtain ⟨v, d, rfl, hd, q⟩ := h
    obtain ⟨tk, hK⟩ := N.KEYS
    refine ⟨_, pss_one (ps_ret (pe_and (pe_own dN hr (Nat.le_refl _) (by rfl) (pa_cons (pv 0) pa_nil)) (pe_one (pe_chain op_le op_lt pe_int (pv 0) (pe_glob (v := .int 1000) (by rfl) hK ⟨_, rfl⟩))))), ?_⟩
    refine s_ret (ev_is (ev_andV (b := isKey d) (ev_told (ev_var rfl) hd) fun e => ?_) (congrArg V.bl (key_eq d))) q
    obtain ⟨i, rfl, rfl⟩ := num_int hd e
    exact ev_chain (p := fun i j => decide (i ≤ j)) (p' := fun i j => decide (i < j)) ev_c (ev_var rfl) ev_c
theorem ok_worth {f : Addr} {fd : FuncData} {k : Nat} (F : Fun K "is_worth" "is_worth" sWorth f fd) (N : Names mg) (dN : Own P w K mg base "is_number" ["thing"] k (spTold K isNum)) : FnOk P w K mg base CX0 (k + 1) f fd ["thing"] (spTold K isKey) := by
  refine F.ok scWorth (fun vs H Q E h => ?_) (fun cdv A outer s H vs Q E hr h => ?_)
  · obtain ⟨v, d, rfl, _⟩ := h
    rfl
  · obtain ⟨v, d, rfl, hd, q⟩ := h
    obtain ⟨tk, hK⟩ := N.WORTHS
    refine ⟨_, pss_one (ps_ret (pe_and (pe_own dN hr (Nat.le_refl _) (by rfl) (pa_cons (pv 0) pa_nil)) (pe_one (pe_chain op_le op_lt pe_int (pv 0) (pe_glob (v := .int 1000) (by rfl) hK ⟨_, rfl⟩))))), ?_⟩
    refine s_ret (ev_is (ev_andV (b := isKey d) (ev_told (ev_var rfl) hd) fun e => ?_) (congrArg V.bl (key_eq d))) q
    obtain ⟨i, rfl, rfl⟩ := num_int hd e
    exact ev_chain (p := fun i j => decide (i ≤ j)) (p' := fun i j => decide (i < j)) ev_c (ev_var rfl) ev_c
theorem tup_dp {H : Hp} {v : V} {d : PyData} (h : Dp K H v d) (e : isTup d = true) : ∃ a xs ds, v = .ref a ∧ d = .tuple ds ∧ SqT K H a xs ∧ DpAll K H xs ds := by
  cases h with
  | tup h r => exact ⟨_, _, _, rfl, rfl, h, r⟩
  | _ => cases e
def rowB : PyData → Bool
  | .tuple ds => decide ((ds.length : Int) = 2) && (isKey (ds.getD 0 .none) && isKey (ds.getD 1 .none)) | _ => false
theorem row_eq (d : PyData) : (isTup d && rowB d) = isRow d := by
  cases d with
  | tuple ds =>
    match ds with
    | [] => rfl
    | [_] => rfl
    | [x, y] => rfl
    | x :: y :: z :: r =>
      show (decide ((((r.length + 1 + 1 + 1 : Nat)) : Int) = 2) && (isKey x && isKey y)) = false
      rw [decide_eq_false (by omega)]
      rfl
  | _ => rfl
theorem ok_row {f : Addr} {fd : FuncData} {k : Nat} (F : Fun K "is_row" "is_row" sRow f fd) (N : Names mg) (dK : Own P w K mg base "is_key" ["thing"] k (spTold K isKey)) (dW : Own P w K mg base "is_worth" ["thing"] k (spTold K isKey)) :
    FnOk P w K mg base CX0 (k + 1) f fd ["thing"] (spTold K isRow) := by
  refine F.ok scRow (fun vs H Q E h => ?_) (fun cdv A outer s H vs Q E hr h => ?_)
  · obtain ⟨v, d, rfl, _⟩ := h
    rfl
  · obtain ⟨v, d, rfl, hd, q⟩ := h
    refine ⟨_, pss_one (ps_ret (pe_and (pe_callB call_isi (by rfl) N.isinstance boot_isinstance (pa_cons (pv 0) (pa_cons (pe_bltn (v := .ty "tuple") (by rfl) N.tuple boot_tuple rfl) pa_nil)))
      (pe_and (pe_cmpR op_eq (pe_callB call_len_seq (by rfl) N.len PySem.boot_len (pa_cons (pv 0) pa_nil)) pe_int (nomark _))
      (pe_and (pe_own dK hr (Nat.le_refl _) (by rfl) (pa_cons (pe_ix ix_tup (pv 0) pe_int (fun _ _ => rfl)) pa_nil))
      (pe_one (pe_own dW hr (Nat.le_refl _) (by rfl) (pa_cons (pe_ix ix_tup (pv 0) pe_int (fun _ _ => rfl)) pa_nil))))))), ?_⟩
    refine s_ret (ev_is (ev_andV (b := rowB d) (ev_tuple (ev_var rfl) hd) fun e => ?_) (congrArg V.bl (row_eq d))) q
    obtain ⟨a, xs, ds, rfl, rfl, hT, hA⟩ := tup_dp hd e
    have hl := dps_len hA
    refine ev_andV (ev_is (ev_op (ev_lenT (ev_var rfl) hT) ev_c (rv_eq rfl)) (congrArg V.bl ?_)) fun e2 => ?_
    · rw [hl]
      exact decide_eq_decide.mpr ⟨fun z => V.int.inj z, fun z => congrArg V.int z⟩
    · have e3 : ds.length = 2 := by
        have := of_decide_eq_true e2
        omega
      obtain ⟨d0, d1, rfl⟩ := two_of e3
      cases hA with
      | cons h0 r =>
        cases r with
        | cons h1 r2 =>
          cases r2
          exact ev_andV (a := isKey d0) (b := isKey d1) (ev_told (ev_ix0 (ev_var rfl) hT) h0) fun _ => ev_told (ev_ix1 (ev_var rfl) hT) h1
end
end K42b
namespace K42b
open PySem L2 PyProof.Rows Tc Evl
section
variable {P : Program} {w : World} {K : PySem.W.Frag} {mg : Str → Option Value} {base : Heap}
theorem key_int {H : Hp} {v : V} {d : PyData} (h : Dp K H v d) (e : isKey d = true) : ∃ i, v = .int i ∧ d = .int i ∧ 0 ≤ i ∧ i < 1000 := by
  cases h with
  | int i =>
    have p : (decide (0 ≤ i) && decide (i < 1000)) = true := e
    rw [Bool.and_eq_true, decide_eq_true_eq, decide_eq_true_eq] at p
    exact ⟨i, rfl, rfl, p.1, p.2⟩
  | _ => cases e
theorem row_two {ds : List PyData} (e : isRow (.tuple ds) = true) : ∃ d0 d1, ds = [d0, d1] ∧ isKey d0 = true ∧ isKey d1 = true := by
  match ds, e with
  | [d0, d1], e =>
    have e' : (isKey d0 && isKey d1) = true := e
    rw [Bool.and_eq_true] at e'
    exact ⟨d0, d1, rfl, e'.1, e'.2⟩
theorem row_dp {H : Hp} {v : V} {d : PyData} (h : Dp K H v d) (e : isRow d = true) : ∃ (a : Addr) (k z : Int), v = .ref a ∧ d = .tuple [.int k, .int z] ∧ SqT K H a [.int k, .int z] ∧ 0 ≤ k ∧ k < 1000 ∧ 0 ≤ z ∧ z < 1000 := by
  cases h with
  | @tup a xs ds h r =>
    obtain ⟨d0, d1, rfl, k0, k1⟩ := row_two e
    cases r with
    | cons h0 r =>
      cases r with
      | cons h1 r2 =>
        cases r2
        obtain ⟨k, rfl, rfl, p1, p2⟩ := key_int h0 k0
        obtain ⟨z, rfl, rfl, p3, p4⟩ := key_int h1 k1
        exact ⟨a, k, z, rfl, rfl, h, p1, p2, p3, p4⟩
  | _ => cases e
/-- rows from a least key on, less than last -/
def risB (last : Int) : Int → List PyData → Bool
  | _, [] => true
  | least, d :: r => isRow d && (decide (least ≤ keyOf d) && decide (keyOf d < last)) && risB last (keyOf d + 1) r
theorem risB_cons (last l : Int) (ds : List PyData) (i : Nat) (d : PyData) (h : ds[i]? = some d) : risB last l (ds.drop i) = (isRow d && (decide (l ≤ keyOf d) && decide (keyOf d < last)) && risB last (keyOf d + 1) (ds.drop (i + 1))) := by
  obtain ⟨h1, h2⟩ := List.getElem?_eq_some_iff.mp h
  rw [List.drop_eq_getElem_cons h1, h2]
  rfl
theorem row_key {d : PyData} (h : isRow d = true) : keyOf d < 1000 := by
  unfold isRow at h
  split at h
  · rename_i k w
    rw [Bool.and_eq_true] at h
    cases k with
    | int i =>
      have h1 := h.1
      unfold isKey at h1
      rw [Bool.and_eq_true] at h1
      exact of_decide_eq_true h1.2
    | _ => cases h.1
  · cases h
theorem risB_all : ∀ (ds : List PyData) (l : Int), risB 1000 l ds = rising l ds
  | [], _ => rfl
  | d :: ds, l => by
    show (isRow d && (decide (l ≤ keyOf d) && decide (keyOf d < 1000)) && risB 1000 (keyOf d + 1) ds) = (isRow d && decide (l ≤ keyOf d) && rising (keyOf d + 1) ds)
    rw [risB_all ds]
    cases hr : isRow d with
    | false => rfl
    | true => rw [decide_eq_true (row_key hr), Bool.and_true]
def rowsB (a b : Int) : PyData → Bool
  | .tuple ds => risB b a ds
  | _ => false
theorem table_rows (d : PyData) : isTable d = (rowsB 0 1000 d && (match d with | .tuple ds => decide (ds.length ≤ 100) | _ => false)) := by
  cases d with
  | tuple ds =>
    show (decide (ds.length ≤ 100) && rising 0 ds) = (risB 1000 0 ds && decide (ds.length ≤ 100))
    rw [risB_all, Bool.and_comm]
  | _ => rfl
def spRowsT (K : PySem.W.Frag) : Sp := fun vs H Q _ => ∃ (v : V) (d : PyData) (a b : Int), vs = [v, .int a, .int b] ∧ Dp K H v d ∧ ∀ H', Ex H H' → Q (.bl (rowsB a b d)) H'
theorem ok_rows {f : Addr} {fd : FuncData} {k : Nat} (F : Fun K "is_rows" "is_rows" sRows f fd) (N : Names mg) (dR : Own P w K mg base "is_row" ["thing"] k (spTold K isRow)) :
    FnOk P w K mg base CX0 (k + 1) f fd ["thing", "first", "last"] (spRowsT K) := by
  refine F.ok scRows (fun vs H Q E h => ?_) (fun cdv A outer s H vs Q E hr h => ?_)
  · obtain ⟨v, d, a, b, rfl, _⟩ := h
    rfl
  · obtain ⟨v, d, lo, hi, rfl, hd, q⟩ := h
    refine ⟨_, pss_cons (ps_if (pt_not (pt_val (pe_callB call_isi (by rfl) N.isinstance boot_isinstance (pa_cons (pv 0) (pa_cons (pe_bltn (v := .ty "tuple") (by rfl) N.tuple boot_tuple rfl) pa_nil))))) (pss_one (ps_ret pe_bl)) pss_nil)
      (pss_cons (ps_set (i := 3) scRows.nd rfl (.inl rfl) (pv 1))
      (pss_cons (ps_for PassesOwn.never rfl (pi_tup (pv 0)) (pg_name (i := 4) scRows.nd rfl (.inl rfl))
        (pss_cons (ps_if (PW.pt (pw_or (pt_not (pt_val (pe_own dR hr (Nat.le_refl _) (by rfl) (pa_cons (pv 4) pa_nil))))
            (pw_or1 (pt_not (pt_chain op_le op_lt (pv 3) (pe_ix ix_tup (pv 4) pe_int (fun _ _ => rfl)) (pv 2)))))) (pss_one (ps_ret pe_bl)) pss_nil)
          (pss_one (ps_set (i := 3) scRows.nd rfl (.inl rfl) (pe_op op_add (pe_ix ix_tup (pv 4) pe_int (fun _ _ => rfl)) pe_int)))))
      (pss_one (ps_ret pe_bl)))), ?_⟩
    cases hT : isTup d with
    | false =>
      have e0 : rowsB lo hi d = false := by
        cases d <;> first | rfl | cases hT
      rw [e0] at q
      exact s_seq (s_if (b := true) (et_is (et_not (et_B (ev_tuple (ev_var rfl) hd))) (by rw [hT]; rfl)) (fun _ H1 x1 => s_ret ev_c fun H2 x2 => q H2 (x1.trans x2)) fun e => by cases e)
    | true =>
      obtain ⟨a, xs, ds, rfl, rfl, hS, hA⟩ := tup_dp hd hT
      have hl := dps_len hA
      have q' : ∀ H', Ex H H' → Q (.bl (risB hi lo ds)) H' := q
      refine s_seq (s_if (b := false) (et_is (et_not (et_B (ev_tuple (ev_var rfl) hd))) (by rw [hT]; rfl)) (fun e => by cases e) fun _ H1 x1 => s_next ?_)
      refine s_seq (s_asg (ev_var rfl) fun H2 x2 => s_seq ?_)
      refine s_forT (K := K) (a := a) (xs := xs) (ev_var rfl) (ex_t (x1.trans x2) hS) (fun i σ' H' => ∃ l y, σ' = [some (.ref a), some (.int lo), some (.int hi), some (.int l), y] ∧ Ex H H' ∧ risB hi lo ds = risB hi l (ds.drop i)) (fun H3 x3 => ⟨lo, none, rfl, (x1.trans x2).trans x3, rfl⟩) (fun i σ' H' _ p => ?_) (fun i x σ' H' hx p => ?_) (fun σ' H' p => ?_)
      · obtain ⟨_, _, _, xx, _⟩ := p
        exact ex_t xx hS
      · obtain ⟨l, y, rfl, xx, er⟩ := p
        obtain ⟨dx, hdx, hD⟩ := dps_at hA hx
        have hD' := dp_same xx _ _ hD
        rw [risB_cons hi l ds i dx hdx] at er
        show tSeq _ _ _ [some (V.ref a), some (V.int lo), some (V.int hi), some (V.int l), some x] H'
        cases hR : isRow dx with
        | false =>
          rw [hR] at er
          refine s_if (et_or (et_not (et_B (ev_told (ev_var rfl) hD'))) (b := false) fun e => ?_) (fun _ H1 x1 => s_ret ev_c fun H2 x2 => ?_) (fun e => ?_)
          · rw [hR] at e
            cases e
          · rw [er] at q'
            exact q' H2 ((xx.trans x1).trans x2)
          · rw [hR] at e
            cases e
        | true =>
          obtain ⟨b, kk, z, rfl, rfl, hb, _⟩ := row_dp hD' hR
          rw [hR] at er
          have er2 : risB hi lo ds = ((decide (l ≤ kk) && decide (kk < hi)) && risB hi (kk + 1) (ds.drop (i + 1))) := er
          refine s_if (et_or (et_not (et_B (ev_told (ev_var rfl) hD'))) fun e => et_not (et_test (ev_chain (p := fun i j => decide (i ≤ j)) (p' := fun i j => decide (i < j)) (ev_var rfl) (ev_ix0 (ev_var rfl) hb) (ev_var rfl)))) (fun e H1 x1 => s_ret ev_c fun H2 x2 => ?_) (fun e H1 x1 => ?_)
          · rw [hR] at e
            have e1 : (!(decide (l ≤ kk) && decide (kk < hi))) = true := e
            have e3 : (decide (l ≤ kk) && decide (kk < hi)) = false := by
              cases hz : (decide (l ≤ kk) && decide (kk < hi)) with
              | false => rfl
              | true =>
                rw [hz] at e1
                cases e1
            rw [er2, e3] at q'
            exact q' H2 ((xx.trans x1).trans x2)
          · rw [hR] at e
            have e1 : (!(decide (l ≤ kk) && decide (kk < hi))) = false := e
            have e3 : (decide (l ≤ kk) && decide (kk < hi)) = true := by
              cases hz : (decide (l ≤ kk) && decide (kk < hi)) with
              | true => rfl
              | false =>
                rw [hz] at e1
                cases e1
            rw [e3] at er2
            refine s_next (s_asg (ev_op (ev_ix0 (ev_var rfl) (ex_t x1 hb)) ev_c rv_I0) fun H2 x2 => ?_)
            exact ⟨kk + 1, _, rfl, (xx.trans x1).trans x2, er2⟩
      · obtain ⟨l, y, rfl, xx, er⟩ := p
        rw [hl, List.drop_length] at er
        have er3 : risB hi lo ds = true := er
        rw [er3] at q'
        dsimp only
        exact s_ret ev_c fun H2 x2 => q' H2 (xx.trans x2)
theorem ev_rowsT {σ : L2.St} {H : Hp} {ta tb tc : TE} {v : V} {d : PyData} {a b : Int} {E : XK} (ha : Ev ta σ H v) (h : Dp K H v d) (hb : Ev tb σ H (.int a)) (hc : Ev tc σ H (.int b)) : Ev (tCall (spRowsT K) [] E (tCons ta (tCons tb (tCons tc tNil)))) σ H (.bl (rowsB a b d)) :=
  ev_call (ea_cons ha (ea_cons hb (ea_cons hc ea_nil))) fun H1 e Q q E => ⟨v, d, a, b, rfl, dp_same e _ _ h, fun H' e' => q H' e'⟩
theorem ok_table {f : Addr} {fd : FuncData} {k : Nat} (F : Fun K "is_table" "is_table" sTable f fd) (N : Names mg) (dR : Own P w K mg base "is_rows" ["thing", "first", "last"] k (spRowsT K)) :
    FnOk P w K mg base CX0 (k + 1) f fd ["thing"] (spTold K isTable) := by
  refine F.ok scTable (fun vs H Q E h => ?_) (fun cdv A outer s H vs Q E hr h => ?_)
  · obtain ⟨v, d, rfl, _⟩ := h
    rfl
  · obtain ⟨v, d, rfl, hd, q⟩ := h
    obtain ⟨tk, hK⟩ := N.KEYS
    obtain ⟨tm, hM⟩ := N.MOST_ROWS
    refine ⟨_, pss_one (ps_ret (pe_and (pe_own dR hr (Nat.le_refl _) (by rfl) (pa_cons (pv 0) (pa_cons pe_int (pa_cons (pe_glob (v := .int 1000) (by rfl) hK ⟨_, rfl⟩) pa_nil))))
      (pe_one (pe_cmpR op_le (pe_callB call_len_seq (by rfl) N.len PySem.boot_len (pa_cons (pv 0) pa_nil)) (pe_glob (v := .int 100) (by rfl) hM ⟨_, rfl⟩) (nomark _))))), ?_⟩
    rw [table_rows] at q
    refine s_ret (ev_andV (ev_rowsT (ev_var rfl) hd ev_c ev_c) fun e => ?_) q
    cases d with
    | tuple ds =>
      obtain ⟨a, xs, ds', e1, e2, hS, hA⟩ := tup_dp hd rfl
      cases e1
      cases e2
      exact ev_is (ev_op (ev_lenT (ev_var rfl) hS) ev_c rv_I0) (by
        rw [dps_len hA]
        show V.bl (decide ((ds.length : Int) ≤ 100)) = V.bl (decide (ds.length ≤ 100))
        congr 1
        exact decide_eq_decide.mpr (by omega))
    | _ => cases e
end
end K42b
namespace K42b
open PySem L2 PyProof.Rows Tc Evl
abbrev sWithin : Stmt := topS 61
abbrev sPair : Stmt := topS 65
abbrev sPairs : Stmt := topS 66
abbrev sLTable : Stmt := topS 67
theorem scWithin : FnScope ["thing", "least", "most"] ["thing", "least", "most"] (defScope sWithin) := ⟨rfl, rfl, rfl, by decide +kernel, rfl, by decide +kernel, by decide +kernel⟩
theorem scPair : FnScope ["thing"] ["thing"] (defScope sPair) := ⟨rfl, rfl, rfl, by decide +kernel, rfl, by decide +kernel, by decide +kernel⟩
theorem scPairs : FnScope ["thing", "keys", "pair"] ["thing"] (defScope sPairs) := ⟨rfl, rfl, rfl, by decide +kernel, rfl, by decide +kernel, by decide +kernel⟩
theorem scLTable : FnScope ["thing"] ["thing"] (defScope sLTable) := ⟨rfl, rfl, rfl, by decide +kernel, rfl, by decide +kernel, by decide +kernel⟩
def within (lo hi : Int) : PyData → Bool
  | .int i => decide (lo ≤ i) && decide (i ≤ hi) | _ => false
theorem within_eq (lo hi : Int) (d : PyData) : (isInt d && (!isBool d && within lo hi d)) = within lo hi d := by
  cases d <;> first | rfl | (simp [isInt, isBool, within])
theorem within_key (d : PyData) : within 0 999 d = isKey d := by
  cases d with
  | int i =>
    show (decide (0 ≤ i) && decide (i ≤ 999)) = (decide (0 ≤ i) && decide (i < 1000))
    rw [show decide (i ≤ 999) = decide (i < 1000) from decide_eq_decide.mpr (by omega)]
  | _ => rfl
section
variable {P : Program} {w : World} {K : PySem.W.Frag} {mg : Str → Option Value} {base : Heap}
def spWithin (K : PySem.W.Frag) : Sp := fun vs H Q _ => ∃ (v : V) (d : PyData) (lo hi : Int), vs = [v, .int lo, .int hi] ∧ Dp K H v d ∧ ∀ H', Ex H H' → Q (.bl (within lo hi d)) H'
theorem ok_within {f : Addr} {fd : FuncData} {k : Nat} (F : Fun K "_law_within" "_law_within" sWithin f fd) (N : Names mg) : FnOk P w K mg base CX0 (k + 1) f fd ["thing", "least", "most"] (spWithin K) := by
  refine F.ok scWithin (fun vs H Q E h => ?_) (fun cdv A outer s H vs Q E hr h => ?_)
  · obtain ⟨v, d, lo, hi, rfl, _⟩ := h
    rfl
  · obtain ⟨v, d, lo, hi, rfl, hd, q⟩ := h
    refine ⟨_, pss_one (ps_ret (pe_and (pe_callB call_isi (by rfl) N.isinstance boot_isinstance (pa_cons (pv 0) (pa_cons (pe_bltn (v := .ty "int") (by rfl) N.int boot_int rfl) pa_nil)))
      (pe_and (pe_not (pe_callB call_isi (by rfl) N.isinstance boot_isinstance (pa_cons (pv 0) (pa_cons (pe_bltn (v := .ty "bool") (by rfl) N.bool boot_bool rfl) pa_nil))))
      (pe_one (pe_chain op_le op_le (pv 1) (pv 0) (pv 2)))))), ?_⟩
    refine s_ret (ev_is (ev_andV (ev_int (ev_var rfl) hd) fun e => ev_andV (b := within lo hi d) (ev_notV (ev_bool (ev_var rfl) hd)) fun e2 => ?_) (congrArg V.bl (within_eq lo hi d))) q
    cases hd with
    | int i => exact ev_chain (p := fun i j => decide (i ≤ j)) (p' := fun i j => decide (i ≤ j)) (ev_var rfl) (ev_var rfl) (ev_var rfl)
    | bl b => cases e2
    | _ => cases e
theorem ev_within {σ : L2.St} {H : Hp} {ta tb tc : TE} {E : XK} {v : V} {d : PyData} {lo hi : Int} (ha : Ev ta σ H v) (hb : Ev tb σ H (.int lo)) (hc : Ev tc σ H (.int hi)) (h : Dp K H v d) : Ev (tCall (spWithin K) [] E (tCons ta (tCons tb (tCons tc tNil)))) σ H (.bl (within lo hi d)) :=
  ev_call (ea_cons ha (ea_cons hb (ea_cons hc ea_nil))) fun H1 e Q q E => ⟨v, d, lo, hi, rfl, dp_same e _ _ h, fun H' e' => q H' e'⟩
theorem ok_pair {f : Addr} {fd : FuncData} {k : Nat} (F : Fun K "_law_is_pair" "_law_is_pair" sPair f fd) (N : Names mg) (dW : Own P w K mg base "_law_within" ["thing", "least", "most"] k (spWithin K)) : FnOk P w K mg base CX0 (k + 1) f fd ["thing"] (spTold K isRow) := by
  refine F.ok scPair (fun vs H Q E h => ?_) (fun cdv A outer s H vs Q E hr h => ?_)
  · obtain ⟨v, d, rfl, _⟩ := h
    rfl
  · obtain ⟨v, d, rfl, hd, q⟩ := h
    refine ⟨_, pss_cons (ps_if (PW.pt (pw_or (pt_not (pt_val (pe_callB call_isi (by rfl) N.isinstance boot_isinstance (pa_cons (pv 0) (pa_cons (pe_bltn (v := .ty "tuple") (by rfl) N.tuple boot_tuple rfl) pa_nil)))))
        (pw_or1 (pt_cmpR op_ne (pe_callB call_len_seq (by rfl) N.len PySem.boot_len (pa_cons (pv 0) pa_nil)) pe_int (nomark _))))) (pss_one (ps_ret pe_bl)) pss_nil)
      (pss_one (ps_ret (pe_and (pe_own dW hr (Nat.le_refl _) (by rfl) (pa_cons (pe_ix ix_tup (pv 0) pe_int (fun _ _ => rfl)) (pa_cons pe_int (pa_cons pe_int pa_nil))))
        (pe_one (pe_own dW hr (Nat.le_refl _) (by rfl) (pa_cons (pe_ix ix_tup (pv 0) pe_int (fun _ _ => rfl)) (pa_cons pe_int (pa_cons pe_int pa_nil)))))))), ?_⟩
    cases hT : isTup d with
    | false =>
      have e0 : isRow d = false := by
        rw [← row_eq, hT]
        rfl
      rw [e0] at q
      refine s_seq (s_if (et_or (et_not (et_B (ev_tuple (ev_var rfl) hd))) (b := false) fun e => ?_) (fun _ H1 x1 => s_ret ev_c fun H2 x2 => q H2 (x1.trans x2)) (fun e => ?_))
      · rw [hT] at e
        cases e
      · rw [hT] at e
        cases e
    | true =>
      obtain ⟨a, xs, ds, rfl, rfl, hS, hA⟩ := tup_dp hd hT
      have hl := dps_len hA
      refine s_seq (s_if (et_or (et_not (et_B (ev_tuple (ev_var rfl) hd))) fun e => et_test (ev_op (ev_lenT (ev_var rfl) hS) ev_c (rv_ne rfl))) (fun e H1 x1 => s_ret ev_c fun H2 x2 => ?_) (fun e H1 x1 => s_next ?_))
      · have e1 : (!decide (V.int (xs.length : Int) = V.int 2)) = true := e
        have e2 : ¬ ((ds.length : Int) = 2) := fun z => by
          rw [hl, z] at e1
          cases e1
        have e3 : isRow (.tuple ds) = false := by
          rw [← row_eq]
          show (true && (decide ((ds.length : Int) = 2) && _)) = false
          rw [decide_eq_false e2]
          rfl
        rw [e3] at q
        exact q H2 (x1.trans x2)
      · have e1 : (!decide (V.int (xs.length : Int) = V.int 2)) = false := e
        have e2 : ds.length = 2 := by
          have : decide (V.int (xs.length : Int) = V.int 2) = true := by
            cases h : decide (V.int (xs.length : Int) = V.int 2) with
            | true => rfl
            | false =>
              rw [h] at e1
              cases e1
          have := V.int.inj (of_decide_eq_true this)
          omega
        obtain ⟨d0, d1, rfl⟩ := two_of e2
        cases hA with
        | cons h0 r =>
          cases r with
          | cons h1 r2 =>
            cases r2
            refine s_ret (ev_is (ev_andV (ev_within (ev_ix0 (ev_var rfl) (ex_t x1 hS)) ev_c ev_c (dp_same x1 _ _ h0)) fun _ => ev_within (ev_ix1 (ev_var rfl) (ex_t x1 hS)) ev_c ev_c (dp_same x1 _ _ h1)) (congrArg V.bl ?_)) fun H2 x2 => q H2 (x1.trans x2)
            show (within 0 999 d0 && within 0 999 d1) = (isKey d0 && isKey d1)
            rw [within_key, within_key]
end
end K42b
namespace K42b
open PySem L2 PyProof.Rows Tc Evl
/-! ### the mathematics of rising keys -/
theorem rising_pw : ∀ (ds : List PyData) (l : Int), (∀ d ∈ ds, isRow d = true) → (rising l ds = true ↔ (∀ k ∈ ds.map keyOf, l ≤ k) ∧ (ds.map keyOf).Pairwise (· < ·))
  | [], l, _ => ⟨fun _ => ⟨fun k h => by simp at h, List.Pairwise.nil⟩, fun _ => rfl⟩
  | d :: ds, l, h => by
    have hd := h d List.mem_cons_self
    have ih := rising_pw ds (keyOf d + 1) fun e m => h e (List.mem_cons_of_mem _ m)
    rw [rising, hd, Bool.true_and, Bool.and_eq_true, decide_eq_true_eq, ih, List.map_cons, List.pairwise_cons]
    constructor
    · rintro ⟨h1, h2, h3⟩
      refine ⟨fun k m => ?_, fun k m => by have := h2 k m; omega, h3⟩
      rcases List.mem_cons.mp m with e | m
      · omega
      · have := h2 k m
        omega
    · rintro ⟨h1, h2, h3⟩
      exact ⟨h1 _ List.mem_cons_self, fun k m => by have := h2 k m; omega, h3⟩
theorem rising_rows : ∀ (ds : List PyData) (l : Int), rising l ds = true → ∀ d ∈ ds, isRow d = true
  | [], _, _, d, m => by simp at m
  | e :: ds, l, h, d, m => by
    rw [rising, Bool.and_eq_true, Bool.and_eq_true] at h
    rcases List.mem_cons.mp m with z | m
    · rw [z]
      exact h.1.1
    · exact rising_rows ds _ h.2 d m
theorem keyOf_bd {d : PyData} (h : isRow d = true) : 0 ≤ keyOf d ∧ keyOf d < 1000 := by
  cases d with
  | tuple ds =>
    obtain ⟨d0, d1, rfl, k0, k1⟩ := row_two h
    cases d0 with
    | int i =>
      have p : (decide (0 ≤ i) && decide (i < 1000)) = true := k0
      rw [Bool.and_eq_true, decide_eq_true_eq, decide_eq_true_eq] at p
      exact p
    | _ => cases k0
  | _ => cases h
def once (ks : List Int) : List Int := ((List.range 1000).map Int.ofNat).filter (fun k => decide (k ∈ ks))
theorem once_pw (ks : List Int) : (once ks).Pairwise (· < ·) := by
  unfold once
  refine List.Pairwise.filter _ (List.pairwise_map.mpr ?_)
  exact List.pairwise_lt_range.imp fun h => Int.ofNat_lt.mpr h
theorem once_mem (ks : List Int) (hb : ∀ k ∈ ks, 0 ≤ k ∧ k < 1000) (k : Int) : k ∈ once ks ↔ k ∈ ks := by
  unfold once
  rw [List.mem_filter, decide_eq_true_eq]
  refine ⟨fun h => h.2, fun h => ⟨?_, h⟩⟩
  have := hb k h
  exact List.mem_map.mpr ⟨k.toNat, List.mem_range.mpr (by omega), by
    show ((k.toNat : Nat) : Int) = k
    omega⟩
theorem once_eq (ks : List Int) (hb : ∀ k ∈ ks, 0 ≤ k ∧ k < 1000) : decide (ks = once ks) = true ↔ ks.Pairwise (· < ·) := by
  rw [decide_eq_true_eq]
  constructor
  · intro h
    rw [h]
    exact once_pw ks
  · intro h
    exact rising_one _ _ h (once_pw ks) fun k => (once_mem ks hb k).symm
theorem pairs_eq (ds : List PyData) (h : ∀ d ∈ ds, isRow d = true) : decide (ds.map keyOf = once (ds.map keyOf)) = rising 0 ds := by
  have hb : ∀ k ∈ ds.map keyOf, 0 ≤ k ∧ k < 1000 := fun k m => by
    obtain ⟨d, m2, rfl⟩ := List.mem_map.mp m
    exact keyOf_bd (h d m2)
  have h1 := once_eq _ hb
  have h2 := rising_pw ds 0 h
  rw [Bool.eq_iff_iff, h1, h2]
  exact ⟨fun p => ⟨fun k m => (hb k m).1, p⟩, fun p => p.2⟩
def arePairs : PyData → Bool
  | .tuple ds => rising 0 ds | _ => false
theorem table_eq (d : PyData) (b : Bool) (h : ∀ ds, d = .tuple ds → b = decide (ds.length ≤ 100)) : (arePairs d && b) = isTable d := by
  cases d with
  | tuple ds =>
    rw [h ds rfl]
    exact Bool.and_comm _ _
  | _ => rfl
def Short (d : PyData) : Prop := ∀ ds, d = .tuple ds → ds.length ≤ 2000
/-- the same, of data whose tuple is not too long -/
def spToldS (K : PySem.W.Frag) (f : PyData → Bool) : Sp := fun vs H Q _ => ∃ (v : V) (d : PyData), vs = [v] ∧ Dp K H v d ∧ Short d ∧ ∀ H', Ex H H' → Q (.bl (f d)) H'
section
variable {P : Program} {w : World} {K : PySem.W.Frag} {mg : Str → Option Value} {base : Heap}
theorem ev_toldS {σ : L2.St} {H : Hp} {ta : TE} {v : V} {d : PyData} {f : PyData → Bool} {E : XK} (ha : Ev ta σ H v) (h : Dp K H v d) (hz : Short d) : Ev (tCall (spToldS K f) [] E (tCons ta tNil)) σ H (.bl (f d)) :=
  ev_call (ea_cons ha ea_nil) fun H1 e Q q E => ⟨v, d, rfl, dp_same e _ _ h, hz, fun H' e' => q H' e'⟩
theorem ok_pairs {f : Addr} {fd : FuncData} {k : Nat} (F : Fun K "_law_are_pairs" "_law_are_pairs" sPairs f fd) (N : Names mg) (dP : Own P w K mg base "_law_is_pair" ["thing"] k (spTold K isRow)) :
    FnOk P w K mg base CX0 (k + 1) f fd ["thing"] (spToldS K arePairs) := by
  refine F.ok scPairs (fun vs H Q E h => ?_) (fun cdv A outer s H vs Q E hr h => ?_)
  · obtain ⟨v, d, rfl, _⟩ := h
    rfl
  · obtain ⟨v, d, rfl, hd, hz, q⟩ := h
    refine ⟨_, pss_cons (ps_if (PW.pt (pw_or (pt_not (pt_val (pe_callB call_isi (by rfl) N.isinstance boot_isinstance (pa_cons (pv 0) (pa_cons (pe_bltn (v := .ty "tuple") (by rfl) N.tuple boot_tuple rfl) pa_nil)))))
        (pw_or1 (pt_cmpR (op_neE hr.units) (pe_lc (own := [("pair", 2)]) (g := gName 2) rfl scPairs.nd (pi_tup (pv 0)) (blkOk_by (N := ["thing", "keys", "pair"]) (sc := defScope sPairs) (by decide +kernel)) (fun _ _ _ _ _ => pg_name (i := 2) scPairs.nd rfl (Or.inl rfl))
          (fun _ _ _ _ _ => pts_one (pt_not (pt_val (pe_own dP hr (Nat.le_refl _) (by rfl) (pa_cons (pv 2) pa_nil))))) (fun _ _ _ _ _ => pv 2)) (pe_lst pa_nil) (nomark _))))) (pss_one (ps_ret pe_bl)) pss_nil)
      (pss_cons (ps_setLc (i := 1) (own := [("pair", 2)]) (g := gName 2) (te := tOp (rIxT K) (tVar 2) (tC (.int 0))) rfl scPairs.nd rfl rfl (sw_true rfl rfl rfl (by decide +kernel)) (pi_tup (pv 0)) (blkOk_by (N := ["thing", "keys", "pair"]) (sc := defScope sPairs) (by decide +kernel)) (fun _ _ _ _ _ => pg_name (i := 2) scPairs.nd rfl (Or.inl rfl))
          (fun _ _ _ _ _ => pts_nil) (fun _ _ _ _ _ => pe_ix ix_tup (pv 2) pe_int (fun _ _ => rfl)))
      (pss_one (ps_ret (pe_cmpR (op_eqD hr.units) (pv 1) (pe_callB (cr_sortedSetA rfl) (by rfl) N.sorted boot_sorted (pa_cons (pe_callTy (cr_setL rfl) (by rfl) N.set boot_set (pa_cons (pv 1) pa_nil)) pa_nil)) (nomark _))))), ?_⟩
    cases hT : isTup d with
    | false =>
      have e0 : arePairs d = false := by
        cases d <;> first | rfl | cases hT
      rw [e0] at q
      refine s_seq (s_if (et_or (et_not (et_B (ev_tuple (ev_var rfl) hd))) (b := false) fun e => ?_) (fun _ H1 x1 => s_ret ev_c fun H2 x2 => q H2 (x1.trans x2)) (fun e => ?_))
      · rw [hT] at e
        cases e
      · rw [hT] at e
        cases e
    | true =>
      obtain ⟨a, xs, ds, rfl, rfl, hS, hA⟩ := tup_dp hd hT
      have hl := dps_len hA
      have hl2 := hz ds rfl
      have hat : ∀ {i : Nat} {x : V}, xs[i]? = some x → Dp K H x (ds.getD i .none) := fun {i x} e => by
        obtain ⟨dx, h1, h2⟩ := dps_at hA e
        rw [List.getD_eq_getElem?_getD, h1]
        exact h2
      refine s_seq (s_if (et_or (et_not (et_B (ev_tuple (ev_var rfl) hd))) fun e => et_test (ev_opLL (z := .bl (!(given xs.length (fun i => !isRow (ds.getD i .none)) (fun i => xs.getD i .non)).isEmpty)) (el_lcT (K := K) (fun i => !isRow (ds.getD i .none)) (fun i => xs.getD i .non) (ev_var rfl) hS (by omega) (fun x => rfl)
        (fun i x H1 e1 hx => et_not (et_B (ev_told (ev_var rfl) (dp_same e1 _ _ (hat hx))))) (fun i x H1 e1 hx _ => ev_is (ev_var rfl) (by rw [List.getD_eq_getElem?_getD, hx]; rfl))) (el_lst ea_nil (by decide)) fun p r H1 hp hr x1 H2 x2 Q q => ⟨p, r, _, rfl, rfl, sq_of (x2 p _ hp), sq_of (x2 r _ hr), q H2 (Ex.refl H2)⟩)) (fun e H1 x1 => s_ret ev_c fun H2 x2 => ?_) (fun e H1 x1 => s_next ?_))
      · have e1 : (!(given xs.length (fun i => !isRow (ds.getD i .none)) (fun i => xs.getD i .non)).isEmpty) = true := e
        have e2 : arePairs (.tuple ds) = false := by
          show rising 0 ds = false
          cases hr : rising 0 ds with
          | false => rfl
          | true =>
            have h1 := rising_rows ds 0 hr
            have h2 : (given xs.length (fun i => !isRow (ds.getD i .none)) (fun i => xs.getD i .non)).isEmpty = true := (given_empty _ _ _).mpr fun i hi => by
              have hi2 : i < ds.length := by omega
              rw [List.getD_eq_getElem?_getD, List.getElem?_eq_getElem hi2]
              show (!isRow ds[i]) = false
              rw [h1 _ (List.getElem_mem hi2)]
              rfl
            rw [h2] at e1
            cases e1
        rw [e2] at q
        exact q H2 (x1.trans x2)
      · have e1 : (!(given xs.length (fun i => !isRow (ds.getD i .none)) (fun i => xs.getD i .non)).isEmpty) = false := e
        have e2 : (given xs.length (fun i => !isRow (ds.getD i .none)) (fun i => xs.getD i .non)).isEmpty = true := by
          cases h : (given xs.length (fun i => !isRow (ds.getD i .none)) (fun i => xs.getD i .non)).isEmpty with
          | true => rfl
          | false =>
            rw [h] at e1
            cases e1
        have hrow : ∀ i, i < ds.length → isRow (ds.getD i .none) = true := fun i hi => by
          have h := (given_empty _ _ _).mp e2 i (by omega)
          cases h2 : isRow (ds.getD i .none) with
          | true => rfl
          | false =>
            rw [h2] at h
            cases h
        have hall : ∀ d ∈ ds, isRow d = true := fun d m => by
          obtain ⟨i, hi, rfl⟩ := List.mem_iff_getElem.mp m
          have h := hrow i hi
          rw [List.getD_eq_getElem?_getD, List.getElem?_eq_getElem hi] at h
          exact h
        have q' : ∀ H', Ex H H' → Q (.bl (decide (ds.map keyOf = once (ds.map keyOf)))) H' := by
          rw [pairs_eq ds hall]
          exact q
        have hb : ∀ k ∈ ds.map keyOf, 0 ≤ k ∧ k < 1000 := fun k m => by
          obtain ⟨d, m2, rfl⟩ := List.mem_map.mp m
          exact keyOf_bd (hall d m2)
        have hks : (given xs.length (fun _ => true) (fun i => V.int (keyOf (ds.getD i .none)))) = (ds.map keyOf).map V.int := by
          rw [given_all, hl]
          apply List.ext_getElem
          · simp
          · intro i h1 h2
            simp only [List.length_map] at h2
            simp [List.getD_eq_getElem?_getD, List.getElem?_eq_getElem h2]
        refine s_seq (s_asgL (el_lcT (K := K) (fun _ => true) (fun i => V.int (keyOf (ds.getD i .none))) (ev_var rfl) (ex_t x1 hS) (by omega) (fun x => rfl) (fun i x H2 e2 hx => et_yes) fun i x H2 e2 hx _ => ?_) fun p H2 hp x2 h2 => ?_)
        · have hi : i < ds.length := by
            have := (List.getElem?_eq_some_iff.mp hx).1
            omega
          obtain ⟨b, kk, z, rfl, e4, hb2, _⟩ := row_dp (dp_same (x1.trans e2) _ _ (hat hx)) (hrow i hi)
          rw [e4]
          exact ev_ix0 (ev_var rfl) hb2
        · rw [hks] at h2
          have h2' : SqL K H2 p ((ds.map keyOf).map V.int) := sq_of h2
          refine s_ret (ev_opL (z := .bl (decide (ds.map keyOf = once (ds.map keyOf)))) (ev_var rfl) (el_sortsetV (ev_var rfl) h2' (by simp; omega) fun l h3 h4 => rising_one l _ h3 (once_pw _) fun k => (h4 k).trans (once_mem _ hb k).symm) fun r H3 hr x3 H4 x4 Q q => ?_) fun H3 x3 => q' H3 ((x1.trans x2).trans x3)
          refine ⟨.list ((ds.map keyOf).map PyData.int), .list ((once (ds.map keyOf)).map PyData.int), .lst (ex_l (x3.trans x4) h2') dps_ints, .lst (sq_of (x4 r _ hr)) dps_ints, shaped_ints _, shaped_ints _, ?_⟩
          have e5 : PyData.eqv (.list ((ds.map keyOf).map PyData.int)) (.list ((once (ds.map keyOf)).map PyData.int)) = decide (ds.map keyOf = once (ds.map keyOf)) := by
            rw [PyData.eqv]
            exact eqv_ints _ _
          rw [e5]
          exact q H4 (Ex.refl H4)
theorem ok_ltable {f : Addr} {fd : FuncData} {k : Nat} (F : Fun K "_law_is_table" "_law_is_table" sLTable f fd) (N : Names mg) (dP : Own P w K mg base "_law_are_pairs" ["thing"] k (spToldS K arePairs)) :
    FnOk P w K mg base CX0 (k + 1) f fd ["thing"] (spToldS K isTable) := by
  refine F.ok scLTable (fun vs H Q E h => ?_) (fun cdv A outer s H vs Q E hr h => ?_)
  · obtain ⟨v, d, rfl, _⟩ := h
    rfl
  · obtain ⟨v, d, rfl, hd, hz, q⟩ := h
    refine ⟨_, pss_one (ps_ret (pe_and (pe_own dP hr (Nat.le_refl _) (by rfl) (pa_cons (pv 0) pa_nil)) (pe_one (pe_cmpR op_le (pe_callB call_len_seq (by rfl) N.len PySem.boot_len (pa_cons (pv 0) pa_nil)) pe_int (nomark _))))), ?_⟩
    cases hT : isTup d with
    | false =>
      have e0 : arePairs d = false := by
        cases d <;> first | rfl | cases hT
      refine s_ret (ev_is (ev_andV (b := false) (ev_toldS (ev_var rfl) hd hz) fun e => ?_) (congrArg V.bl (table_eq d false fun ds e => ?_))) q
      · rw [e0] at e
        cases e
      · rw [e] at hT
        cases hT
    | true =>
      obtain ⟨a, xs, ds, rfl, rfl, hS, hA⟩ := tup_dp hd hT
      have hl := dps_len hA
      refine s_ret (ev_is (ev_andV (ev_toldS (ev_var rfl) hd hz) fun e => ev_op (ev_lenT (ev_var rfl) hS) ev_c rv_I0) (congrArg V.bl (table_eq _ _ fun ds' e => ?_))) q
      cases e
      exact decide_eq_decide.mpr (by omega)
end
end K42b
/-! k42: a table's text, read back -/
namespace K42
open PySem L2 L2H PyProof.Rows Tc Evl
/-- a number's figures -/
def dg (i : Int) : Str := Str.ofString (toString i)
def wd (r : Int × Int) : Str := dg r.1 ++ ":" ++ dg r.2
def txt (rs : List (Int × Int)) : Str := if rs = [] then "none" else Txt.join " " (rs.map wd)
/-- what is so of a number below a thousand -/
def chk (n : Nat) : Bool :=
  let w := dg (n : Int)
  Txt.isascii w && (Txt.isdigit w && (decide (w.length ≤ 3) && (decide (1 ≤ w.length) && (decide (intText? w = some (n : Int)) && (decide (w.cps.toList.head? = some 48 → w = "0") && (!w.cps.toList.contains 32 && !w.cps.toList.contains 58))))))
theorem chk_all : (List.range 1000).all chk = true := by decide +kernel
structure DgOk (i : Int) : Prop where
  ascii : Txt.isascii (dg i) = true
  digit : Txt.isdigit (dg i) = true
  l3 : (dg i).length ≤ 3
  l1 : 1 ≤ (dg i).length
  val : intText? (dg i) = some i
  zero : (dg i).cps.toList.head? = some 48 → dg i = "0"
  blank : 32 ∉ (dg i).cps.toList
  colon : 58 ∉ (dg i).cps.toList
theorem dg_ok {i : Int} (h0 : 0 ≤ i) (h1 : i < 1000) : DgOk i := by
  obtain ⟨n, rfl⟩ : ∃ n : Nat, i = (n : Int) := ⟨i.toNat, by omega⟩
  have h := List.all_eq_true.mp chk_all n (List.mem_range.mpr (by omega))
  unfold chk at h
  simp only [Bool.and_eq_true, decide_eq_true_eq, Bool.not_eq_true', List.contains_eq_mem, decide_eq_false_iff_not] at h
  obtain ⟨a1, a2, a3, a4, a5, a6, a7, a8⟩ := h
  exact ⟨a1, a2, a3, a4, a5, a6, a7, a8⟩
/-! ### texts as lists of signs -/
def jl (c : Nat) : List (List Nat) → List Nat
  | [] => []
  | [x] => x
  | x :: y :: r => x ++ c :: jl c (y :: r)
theorem app_inj {c : Nat} : ∀ {x y u v : List Nat}, c ∉ x → c ∉ y → x ++ c :: u = y ++ c :: v → x = y ∧ u = v
  | [], [], u, v, _, _, h => ⟨rfl, (List.cons.inj h).2⟩
  | [], b :: y, u, v, _, hy, h => absurd (by rw [(List.cons.inj h).1]; exact List.mem_cons_self : c ∈ b :: y) hy
  | a :: x, [], u, v, hx, _, h => absurd (by rw [← (List.cons.inj h).1]; exact List.mem_cons_self : c ∈ a :: x) hx
  | a :: x, b :: y, u, v, hx, hy, h => by
    obtain ⟨h1, h2⟩ := List.cons.inj h
    obtain ⟨h3, h4⟩ := app_inj (fun m => hx (List.mem_cons_of_mem _ m)) (fun m => hy (List.mem_cons_of_mem _ m)) h2
    exact ⟨by rw [h1, h3], h4⟩
theorem mem_jl {c : Nat} {x y : List Nat} {r : List (List Nat)} : c ∈ jl c (x :: y :: r) := by
  show c ∈ x ++ c :: jl c (y :: r)
  simp
theorem jl_inj {c : Nat} : ∀ {ps ws : List (List Nat)}, ps ≠ [] → ws ≠ [] → (∀ p ∈ ps, c ∉ p) → (∀ w ∈ ws, c ∉ w) → jl c ps = jl c ws → ps = ws
  | [], _, h, _, _, _, _ => absurd rfl h
  | _, [], _, h, _, _, _ => absurd rfl h
  | [x], [y], _, _, _, _, h => by
    have h : x = y := h
    rw [h]
  | [x], y :: y' :: r, _, _, hp, _, h => absurd (by rw [show x = jl c (y :: y' :: r) from h]; exact mem_jl : c ∈ x) (hp x List.mem_cons_self)
  | x :: x' :: r, [y], _, _, _, hw, h => absurd (by rw [← (show jl c (x :: x' :: r) = y from h)]; exact mem_jl : c ∈ y) (hw y List.mem_cons_self)
  | x :: x' :: r, y :: y' :: s, _, _, hp, hw, h => by
    obtain ⟨h1, h2⟩ := app_inj (hp x List.mem_cons_self) (hw y List.mem_cons_self) (show x ++ c :: jl c (x' :: r) = y ++ c :: jl c (y' :: s) from h)
    rw [h1, jl_inj (by simp) (by simp) (fun p m => hp p (List.mem_cons_of_mem _ m)) (fun w m => hw w (List.mem_cons_of_mem _ m)) h2]
theorem cps_app (a b : Str) : (a ++ b).cps.toList = a.cps.toList ++ b.cps.toList := by
  show (a.cps ++ b.cps).toList = _
  rw [Array.toList_append]
theorem str_ext {a b : Str} (h : a.cps.toList = b.cps.toList) : a = b := by
  obtain ⟨a⟩ := a
  obtain ⟨b⟩ := b
  have e : a = b := Array.toList_inj.mp h
  rw [e]
theorem join_jl (c : Nat) : ∀ ws : List Str, (Str.join ⟨#[c]⟩ ws).cps.toList = jl c (ws.map fun w => w.cps.toList)
  | [] => rfl
  | [x] => rfl
  | x :: y :: r => by
    show (x ++ ⟨#[c]⟩ ++ Str.join ⟨#[c]⟩ (y :: r)).cps.toList = x.cps.toList ++ c :: jl c ((y :: r).map fun w => w.cps.toList)
    rw [cps_app, cps_app, join_jl c (y :: r), List.append_assoc]
    rfl
theorem split_ne (x y : Str) : Txt.split x y ≠ [] ∨ x.length = 0 := by
  by_cases h : Txt.split x y = []
  · have := StrLaws.join_split x y
    rw [h] at this
    exact .inr (by rw [← this]; rfl)
  · exact .inl h
theorem join_str (c : Nat) (ws : List Str) : Txt.join ⟨#[c]⟩ ws = Str.join ⟨#[c]⟩ ws := StrLaws.glued_eq_join _ _
theorem split_join {c : Nat} {ws : List Str} (ne : ws ≠ []) (l : ∀ w ∈ ws, 1 ≤ w.length) (free : ∀ w ∈ ws, c ∉ w.cps.toList) : Txt.split (Str.join ⟨#[c]⟩ ws) ⟨#[c]⟩ = ws := by
  have h1 := StrLaws.join_split (Str.join ⟨#[c]⟩ ws) ⟨#[c]⟩
  have h2 := StrLaws.split_free (Str.join ⟨#[c]⟩ ws) c
  have h3 : Txt.split (Str.join ⟨#[c]⟩ ws) ⟨#[c]⟩ ≠ [] := (split_ne _ _).elim id fun z => by
    exfalso
    match ws, ne, l with
    | [x], _, l =>
      have := l x List.mem_cons_self
      have z : x.length = 0 := z
      omega
    | x :: y :: r, _, l =>
      have := l x List.mem_cons_self
      have z : (x ++ ⟨#[c]⟩ ++ Str.join ⟨#[c]⟩ (y :: r)).length = 0 := z
      rw [Str.length_append, Str.length_append] at z
      omega
  generalize Txt.split (Str.join ⟨#[c]⟩ ws) ⟨#[c]⟩ = ps at h1 h2 h3
  have h4 := congrArg (fun x : Str => x.cps.toList) h1
  rw [join_jl, join_jl] at h4
  have h5 := jl_inj (c := c) (ps := ps.map fun w => w.cps.toList) (ws := ws.map fun w => w.cps.toList) (by simpa using h3) (by simpa using ne) (fun p m => by
    obtain ⟨w, mw, rfl⟩ := List.mem_map.mp m
    exact h2 w mw) (fun p m => by
    obtain ⟨w, mw, rfl⟩ := List.mem_map.mp m
    exact free w mw) h4
  have inj : ∀ {a b : List Str}, (a.map fun w => w.cps.toList) = (b.map fun w => w.cps.toList) → a = b := fun {a} => by
    induction a with
    | nil => intro b h; cases b with
      | nil => rfl
      | cons _ _ => cases h
    | cons x a ih =>
      intro b h
      cases b with
      | nil => cases h
      | cons y b =>
        rw [List.map_cons, List.map_cons] at h
        obtain ⟨h1, h2⟩ := List.cons.inj h
        rw [str_ext h1, ih h2]
  exact inj h5
/-! ### rows -/
def rowOk (r : Int × Int) : Prop := 0 ≤ r.1 ∧ r.1 < 1000 ∧ 0 ≤ r.2 ∧ r.2 < 1000
theorem colon_one : (":" : Str) = ⟨#[58]⟩ := by decide +kernel
theorem blank_one : (" " : Str) = ⟨#[32]⟩ := by decide +kernel
theorem wd_split {r : Int × Int} (h : rowOk r) : Txt.split (wd r) ":" = [dg r.1, dg r.2] := by
  have a := dg_ok h.1 h.2.1
  have b := dg_ok h.2.2.1 h.2.2.2
  have e : wd r = Str.join ⟨#[58]⟩ [dg r.1, dg r.2] := by
    unfold wd
    rw [colon_one]
    rfl
  rw [e, colon_one]
  refine split_join (by simp) (fun w m => ?_) fun w m => ?_
  · simp only [List.mem_cons, List.not_mem_nil, or_false] at m
    rcases m with rfl | rfl
    · exact a.l1
    · exact b.l1
  · simp only [List.mem_cons, List.not_mem_nil, or_false] at m
    rcases m with rfl | rfl
    · exact a.colon
    · exact b.colon
theorem wd_cps {r : Int × Int} : (wd r).cps.toList = (dg r.1).cps.toList ++ 58 :: (dg r.2).cps.toList := by
  unfold wd
  rw [cps_app, cps_app, List.append_assoc, colon_one]
  rfl
theorem wd_len {r : Int × Int} (h : rowOk r) : 3 ≤ (wd r).length ∧ (wd r).length ≤ 7 := by
  have a := dg_ok h.1 h.2.1
  have b := dg_ok h.2.2.1 h.2.2.2
  unfold wd
  rw [Str.length_append, Str.length_append, show (":" : Str).length = 1 by decide +kernel]
  have := a.l1; have := a.l3; have := b.l1; have := b.l3
  omega
theorem wd_blank {r : Int × Int} (h : rowOk r) : 32 ∉ (wd r).cps.toList := by
  rw [wd_cps]
  intro m
  rcases List.mem_append.mp m with m | m
  · exact (dg_ok h.1 h.2.1).blank m
  · rcases List.mem_cons.mp m with m | m
    · cases m
    · exact (dg_ok h.2.2.1 h.2.2.2).blank m
theorem txt_split {rs : List (Int × Int)} (ne : rs ≠ []) (h : ∀ r ∈ rs, rowOk r) : Txt.split (txt rs) " " = rs.map wd := by
  unfold txt
  rw [if_neg ne, blank_one, join_str]
  refine split_join (by simpa using ne) (fun w m => ?_) fun w m => ?_
  · obtain ⟨r, mr, rfl⟩ := List.mem_map.mp m
    have := wd_len (h r mr)
    omega
  · obtain ⟨r, mr, rfl⟩ := List.mem_map.mp m
    exact wd_blank (h r mr)
theorem none_split : Txt.split ("none" : Str) " " = [("none" : Str)] := by decide +kernel
theorem wd_inj {r s : Int × Int} (h : rowOk r) (g : rowOk s) (e : wd r = wd s) : r = s := by
  have e1 := wd_split h
  rw [e, wd_split g] at e1
  obtain ⟨e2, e3⟩ := List.cons.inj e1
  obtain ⟨e3, _⟩ := List.cons.inj e3
  have v1 := (dg_ok h.1 h.2.1).val
  have v2 := (dg_ok h.2.2.1 h.2.2.2).val
  rw [← e2, (dg_ok g.1 g.2.1).val] at v1
  rw [← e3, (dg_ok g.2.2.1 g.2.2.2).val] at v2
  exact Prod.ext (Option.some.inj v1).symm (Option.some.inj v2).symm
theorem wds_inj : ∀ {rs os : List (Int × Int)}, (∀ r ∈ rs, rowOk r) → (∀ r ∈ os, rowOk r) → rs.map wd = os.map wd → rs = os
  | [], [], _, _, _ => rfl
  | r :: rs, o :: os, h, g, e => by
    rw [List.map_cons, List.map_cons] at e
    obtain ⟨e1, e2⟩ := List.cons.inj e
    rw [wd_inj (h r List.mem_cons_self) (g o List.mem_cons_self) e1, wds_inj (fun r m => h r (List.mem_cons_of_mem _ m)) (fun r m => g r (List.mem_cons_of_mem _ m)) e2]
  | [], _ :: _, _, _, e => by cases e
  | _ :: _, [], _, _, e => by cases e
theorem not_none {rs : List (Int × Int)} (ne : rs ≠ []) (h : ∀ r ∈ rs, rowOk r) : txt rs ≠ "none" := fun e => by
  have e1 := txt_split ne h
  rw [e, none_split] at e1
  match rs, ne, h, e1 with
  | [r], _, h, e1 =>
    have e2 : ("none" : Str) = wd r := (List.cons.inj e1).1
    have m : 58 ∈ (wd r).cps.toList := by rw [wd_cps]; simp
    rw [← e2] at m
    exact absurd m (by decide +kernel)
  | _ :: _ :: _, _, _, e1 =>
    have := congrArg List.length e1
    rw [List.length_map, List.length_cons, List.length_cons, List.length_cons] at this
    have h0 : ([] : List Str).length = 0 := rfl
    omega
theorem txt_inj {rs os : List (Int × Int)} (h : ∀ r ∈ rs, rowOk r) (g : ∀ r ∈ os, rowOk r) (e : txt rs = txt os) : rs = os := by
  by_cases n1 : rs = []
  · by_cases n2 : os = []
    · rw [n1, n2]
    · rw [n1] at e
      exact absurd e.symm (not_none n2 g)
  · by_cases n2 : os = []
    · rw [n2] at e
      exact absurd e (not_none n1 h)
    · refine wds_inj h g ?_
      rw [← txt_split n1 h, e, txt_split n2 g]
end K42
/-! enumerate(list, start=k) -/
namespace Tc
open PySem PySem.Spec PyProof.Rows L2
end Tc
/-! methods whose last names are left to their defaults, and that may let an exception out -/
namespace Tc
open PySem PySem.Spec PyProof.Rows L2 L2H
end Tc
/-! a house: what one store does to it -/
namespace Tc
open PySem L2 Evl
end Tc
/-! a reading of the house changed where it stands; lives and numbers looked up -/
namespace Tc
open PySem L2 Evl
end Tc
/-! a comprehension that makes data of data -/
namespace Tc
open PySem L2 Evl
theorem kt_put {D : Addr} {H : Hp} {acc ws : List V} (h : H D = some (.lst acc)) : Kt H (upd H D (.lst ws)) :=
  Kt.but (fun a => a = D) (fun a e => by
    subst e
    exact ⟨_, h, (fun xs z => by cases z), fun o xs z => by cases z⟩) fun a o n k => by
    rw [upd_ne n]
    exact k
end Tc
/-! x not in a tuple of data; tuples put together on the way -/
namespace Tc
open PySem PySem.Spec PyProof.Rows L2 Evl
end Tc
/-! a dict comprehension over items; the looks of a reading -/
namespace Tc
open PySem L2 Evl
theorem RgOk.len {x : Rdg} (h : RgOk x) : x.found.length ≤ 1000 := by
  have nd : (x.found.map (·.1)).Nodup := (List.pairwise_map.mpr h.g).imp fun {a b} z e => by omega
  have := len_sub (m := allKs) nd fun k m => by
    obtain ⟨r, mr, rfl⟩ := List.mem_map.mp m
    have := h.f r mr
    exact allKs_mem this.1 this.2
  rw [List.length_map, allKs_len] at this
  exact this
end Tc
/-! x is a bool; looks that end -/
namespace Tc
open PySem L2 Evl
end Tc
/-! x is not a bool; x != y of data where the heap changes on the way; a choice by a turn's number -/
namespace Tc
open PySem L2 Evl
variable {K : PySem.W.Frag} {H : Hp} {x y : V} {d e : PyData} {n : Nat} {Q : Bool → Hp → Prop}
theorem ne_fin (h1 : Dp K H x d) (h2 : Dp K H y d) (s : sd n d = true) (hn : n ≤ 64) (q : Q false H) : rNeD K x y H fun v H' => ∃ c, v = .bl c ∧ Q c H' :=
  ⟨d, d, h1, h2, sd_sh s hn, sd_sh s hn, _, rfl, by rw [sd_eq s]; exact q⟩
theorem ne_finB {m : Nat} (h1 : Dp K H x d) (h2 : Dp K H y e) (s : sd n d = true) (s2 : sd m e = true) (hn : n ≤ 64) (hm : m ≤ 64) (q : Q (!PyData.eqv d e) H) : rNeD K x y H fun v H' => ∃ c, v = .bl c ∧ Q c H' :=
  ⟨d, e, h1, h2, sd_sh s hn, sd_sh s2 hm, _, rfl, q⟩
end Tc
namespace K42
open PySem L2 L2H PyProof.Rows Tc Evl
theorem log_small {i : Int} (h0 : 0 ≤ i) (h1 : i < 1000) : i.natAbs.log2 < 1920 := by
  have : i.natAbs < 1024 := by omega
  by_cases z : i.natAbs = 0
  · rw [z]; decide
  · have := (Nat.log2_lt z (k := 1920)).mpr (Nat.lt_of_lt_of_le (show i.natAbs < 2 ^ 10 by omega) (Nat.pow_le_pow_right (by decide) (by decide)))
    exact this
abbrev sListed : Stmt := topS 47
theorem scListed : FnScope ["words"] ["words"] (defScope sListed) := ⟨rfl, rfl, rfl, by decide +kernel, rfl, by decide +kernel, by decide +kernel⟩
def spListed (K : PySem.W.Frag) : Sp := fun vs H Q _ => ∃ (p : Addr) (ws : List Str), vs = [.ref p] ∧ H p = some (.lst (ws.map V.str)) ∧ ws.length ≤ 1000 ∧ (∀ w ∈ ws, w.length ≤ 100) ∧ ∀ H', Ex H H' → Q (.str (if ws = [] then "none" else Txt.join " " ws)) H'
section
variable {P : Program} {w : World} {K : PySem.W.Frag} {mg : Str → Option Value} {base : Heap}
theorem sum_le (n : Nat) : ∀ {ws : List Str}, (∀ w ∈ ws, w.length ≤ n) → (ws.map (·.length)).sum ≤ n * ws.length
  | [], _ => Nat.zero_le _
  | x :: ws, h => by
    rw [List.map_cons, List.sum_cons, List.length_cons, Nat.mul_succ]
    have h1 := h x List.mem_cons_self
    have h2 := sum_le n (fun w m => h w (List.mem_cons_of_mem _ m))
    omega
theorem ok_listed {f : Addr} {fd : FuncData} {k : Nat} (F : Fun K "listed" "listed" sListed f fd) : FnOk P w K mg base CX0 (k + 1) f fd ["words"] (spListed K) := by
  refine F.ok scListed (fun vs H Q E h => ?_) (fun cdv A outer s H vs Q E hr h => ?_)
  · obtain ⟨p, ws, rfl, _⟩ := h
    rfl
  · obtain ⟨p, ws, rfl, hp, lw, lx, q⟩ := h
    refine ⟨_, pss_one (ps_ret (pe_ifExp (pt_truth (pv 0) (fun _ => rfl)) (pe_join pe_str (pv 0)) pe_str)), ?_⟩
    refine ⟨.ref p, rfl, _, .inl ⟨_, sq_of hp, rfl⟩, ite2 (fun z => ?_) fun z => ?_⟩
    · have ne : ws ≠ [] := fun e => by rw [e] at z; cases z
      have := sum_le 100 lx
      have l1 : (" " : Str).length = 1 := by decide +kernel
      exact ⟨⟨" ", rfl⟩, .ref p, rfl, " ", p, ws, rfl, rfl, .inl (sq_of hp), by rw [l1]; omega, by have := q H (Ex.refl H); rw [if_neg ne] at this; exact this⟩
    · have e : ws = [] := by
        cases ws with
        | nil => rfl
        | cons _ _ => exact absurd rfl z
      have := q H (Ex.refl H)
      rw [if_pos e] at this
      exact this
theorem take_snoc {α : Type} {l : List α} {i : Nat} {a : α} (h : l[i]? = some a) : l.take (i + 1) = l.take i ++ [a] := by
  rw [List.take_succ, h]
  rfl
/-- a comprehension over rows that makes their words -/
theorem lc_rows {H : Hp} {v : V} {rs : List (Int × Int)} {te : TE} {Q : VK} (dv : Dp K H v (rowsD rs)) (ok : ∀ r ∈ rs, rowOk r) (few : rs.length ≤ 100)
    (he : ∀ r H2 (Q' : VK), rowOk r → Ex H H2 → (∀ H3, Ex H2 H3 → Q' (.str (wd r)) H3) → te [some v, some (.int r.1), some (.int r.2)] H2 Q')
    (q : ∀ L H', Ex H H' → H' L = some (.lst ((rs.map wd).map V.str)) → Q (.ref L) H') : tLc (iTup K (tVar 0)) (gTup K 2 (gCons (gName 1) (gCons (gName 2) gNil))) tYes te [1, 2] [some v, none, none] H Q := by
  cases dv with
  | tup hp hA =>
    rename_i p xs
    refine ⟨.ref p, rfl, p, rfl, ⟨xs, hp⟩, fun D hD => ?_⟩
    have xD : Ex H (upd H D (.lst [])) := Ex.new hD
    have lx := dps_len hA
    refine lc_tup (K := K) (xs := xs) (fun i H' => Ex H H' ∧ H' D = some (.lst (((rs.map wd).take i).map V.str))) ⟨xD, upd_same⟩ (fun i H' _ pq => Evl.ex_t pq.1 hp) (fun i x H' hx pq => ?_) (fun H' pq => ?_)
    · obtain ⟨x1, h1⟩ := pq
      obtain ⟨d, hd, dx⟩ := dps_at hA hx
      rw [List.getElem?_map] at hd
      obtain ⟨r, hr', rfl⟩ := Option.map_eq_some_iff.mp hd
      have rok := ok r (List.mem_of_getElem? hr')
      obtain ⟨a, x0, x2, rfl, ht, e0, e1⟩ := dpt2 dx
      cases e0
      cases e1
      have il := (List.getElem?_eq_some_iff.mp hr').1
      refine ⟨a, _, rfl, Evl.ex_t x1 ht, rfl, _, _, rfl, g_name ⟨_, _, rfl, g_name ⟨rfl, rfl, ?_⟩⟩⟩
      refine iteT (B := Ex H H' ∧ H' D = some (.lst (((rs.map wd).take (i + 1)).map V.str))) ?_
      refine he r H' _ rok x1 fun H3 x3 => ⟨_, x3 _ _ h1, sz_lt (by rw [List.length_map, List.length_take]; omega), (x1.trans x3).mut hD, ?_⟩
      rw [upd_same, take_snoc (a := wd r) (by rw [List.getElem?_map, hr']; rfl), List.map_append]
      rfl
    · rw [lx, List.take_of_length_le (by simp)] at pq
      exact q D H' pq.1 pq.2
theorem wds_txt {rs : List (Int × Int)} : (if rs.map wd = [] then ("none" : Str) else Txt.join " " (rs.map wd)) = txt rs := by
  unfold txt
  by_cases e : rs = []
  · rw [if_pos e, if_pos (by rw [e]; rfl)]
  · rw [if_neg e, if_neg (by simpa using e)]
abbrev sRt : Stmt := topS 48
theorem scRt : FnScope ["rows", "key", "worth"] ["rows"] (defScope sRt) := ⟨rfl, rfl, rfl, by decide +kernel, rfl, by decide +kernel, by decide +kernel⟩
def spRt (K : PySem.W.Frag) : Sp := fun vs H Q _ => ∃ (v : V) (rs : List (Int × Int)), vs = [v] ∧ Dp K H v (rowsD rs) ∧ (∀ r ∈ rs, rowOk r) ∧ rs.length ≤ 100 ∧ ∀ H', Ex H H' → Q (.str (txt rs)) H'
theorem ok_rt {f : Addr} {fd : FuncData} {kL k : Nat} (F : Fun K "rows_text" "rows_text" sRt f fd) (dL : Own P w K mg base "listed" ["words"] kL (spListed K)) (hL : kL ≤ k) : FnOk P w K mg base CX0 (k + 1) f fd ["rows"] (spRt K) := by
  refine F.ok scRt (fun vs H Q E h => ?_) (fun cdv A outer s H vs Q E hr h => ?_)
  · obtain ⟨v, rs, rfl, _⟩ := h
    rfl
  · obtain ⟨v, rs, rfl, dv, ok, few, q⟩ := h
    refine ⟨_, pss_one (ps_ret (pe_own dL hr hL (by rfl) (pa_cons (pe_lc (own := [("key", 1), ("worth", 2)]) (g := gTup K 2 (gCons (gName 1) (gCons (gName 2) gNil))) (tt := tYes) (te := (fun σ H Q => tJs [tFmt (tVar 1), tC (.str ":"), tFmt (tVar 2)] Str.empty σ H fun out H1 => Q (.str out) H1)) rfl scRt.nd (pi_tup (pv 0)) (blkOk_by (N := ["rows", "key", "worth"]) (sc := defScope sRt) (by decide +kernel)) (fun _ _ _ _ _ => pg_tup rfl (pgs_cons (pg_name (i := 1) scRt.nd rfl (Or.inl rfl)) (pgs_cons (pg_name (i := 2) scRt.nd rfl (Or.inl rfl)) pgs_nil))) (fun _ _ _ _ _ => pts_nil) (fun _ _ _ _ _ => (pe_joined (PJ.cons (pe_fmt (pv 1)) (PJ.cons pe_str (PJ.cons (pe_fmt (pv 2)) PJ.nil)))))) pa_nil))), ?_⟩
    dsimp only [tRet, tCall, tCons]
    refine lc_rows dv ok few (fun r H2 Q' rok x2 q' => ?_) fun L H' x1 hL => ?_
    · have a := dg_ok rok.1 rok.2.1
      have b := dg_ok rok.2.2.1 rok.2.2.2
      have w := wd_len rok
      have l1 : (":" : Str).length = 1 := by decide +kernel
      have la := a.l3
      have lb := b.l3
      have e1 : Str.empty ++ dg r.1 = dg r.1 := str_ext (by rw [cps_app]; rfl)
      refine ⟨_, rfl, .inr ⟨r.1, rfl, log_small rok.1 rok.2.1, _, rfl, ?_, _, rfl, ?_, _, rfl, .inr ⟨r.2, rfl, log_small rok.2.2.1 rok.2.2.2, _, rfl, ?_, ?_⟩⟩⟩
      · show (Str.empty ++ dg r.1).length ≤ sizeLine
        rw [e1]
        exact sz_of (by omega)
      · show ((Str.empty ++ dg r.1) ++ ":").length ≤ sizeLine
        rw [e1, Str.length_append, l1]
        exact sz_of (by omega)
      · show (((Str.empty ++ dg r.1) ++ ":") ++ dg r.2).length ≤ sizeLine
        rw [e1, Str.length_append, Str.length_append, l1]
        exact sz_of (by omega)
      · have := q' H2 (Ex.refl H2)
        show Q' (.str (((Str.empty ++ dg r.1) ++ ":") ++ dg r.2)) H2
        rw [e1]
        exact this
    · refine ⟨L, rs.map wd, rfl, hL, by rw [List.length_map]; omega, fun w mw => ?_, fun H2 x2 => ?_⟩
      · obtain ⟨r, mr, rfl⟩ := List.mem_map.mp mw
        have := wd_len (ok r mr)
        omega
      · rw [wds_txt]
        exact q H2 (x1.trans x2)
abbrev sTt : Stmt := topS 49
theorem scTt : FnScope ["table"] ["table"] (defScope sTt) := ⟨rfl, rfl, rfl, by decide +kernel, rfl, by decide +kernel, by decide +kernel⟩
def spTt (K : PySem.W.Frag) : Sp := fun vs H Q _ => ∃ (v : V) (rs : List (Int × Int)), vs = [v] ∧ Dp K H v (rowsD rs) ∧ K42b.isTable (rowsD rs) = true ∧ (∀ r ∈ rs, rowOk r) ∧ rs.length ≤ 100 ∧ ∀ H', Ex H H' → Q (.str (txt rs)) H'
theorem ok_tt {f : Addr} {fd : FuncData} {kI kR k : Nat} (F : Fun K "table_text" "table_text" sTt f fd) (dI : Own P w K mg base "is_table" ["thing"] kI (spTold K K42b.isTable)) (hI : kI ≤ k) (dR : Own P w K mg base "rows_text" ["rows"] kR (spRt K)) (hR : kR ≤ k) : FnOk P w K mg base CX0 (k + 1) f fd ["table"] (spTt K) := by
  refine F.ok scTt (fun vs H Q E h => ?_) (fun cdv A outer s H vs Q E hr h => ?_)
  · obtain ⟨v, rs, rfl, _⟩ := h
    rfl
  · obtain ⟨v, rs, rfl, dv, it, ok, few, q⟩ := h
    refine ⟨_, pss_cons (ps_if (pt_not (pt_val (pe_own dI hr hI (by rfl) (pa_cons (pv 0) pa_nil)))) pss_never pss_nil) (pss_one (ps_ret (pe_own dR hr hR (by rfl) (pa_cons (pv 0) pa_nil)))), ?_⟩
    refine s_seq (s_if (b := false) (et_is (et_not (et_B (ev_told (ev_var rfl) dv))) (by rw [it]; rfl)) (fun z => by cases z) fun _ H1 x1 => s_next ?_)
    exact ⟨v, rfl, v, rs, rfl, dp_same x1 _ _ dv, ok, few, fun H2 x2 => q H2 (x1.trans x2)⟩
abbrev sLine : Stmt := topS 68
theorem scLine : FnScope ["table", "key", "worth"] ["table"] (defScope sLine) := ⟨rfl, rfl, rfl, by decide +kernel, rfl, by decide +kernel, by decide +kernel⟩
theorem ok_line {f : Addr} {fd : FuncData} {k : Nat} (F : Fun K "_law_table_line" "_law_table_line" sLine f fd) (N : Names mg) : FnOk P w K mg base CX0 (k + 1) f fd ["table"] (spRt K) := by
  refine F.ok scLine (fun vs H Q E h => ?_) (fun cdv A outer s H vs Q E hr h => ?_)
  · obtain ⟨v, rs, rfl, _⟩ := h
    rfl
  · obtain ⟨v, rs, rfl, dv, ok, few, q⟩ := h
    refine ⟨_, pss_one (ps_ret (pe_ifExp (pt_cmpR (op_neD hr.units) (pv 0) (pe_tup pa_nil) (nomark _)) (pe_join pe_str (pe_lc (own := [("key", 1), ("worth", 2)]) (g := gTup K 2 (gCons (gName 1) (gCons (gName 2) gNil))) (tt := tYes) (te := (tOp (fun x y H Q => ∃ i j, x = V.str i ∧ y = V.str j ∧ i.length + j.length ≤ sizeLine ∧ Q (V.str (i ++ j)) H) (tOp (fun x y H Q => ∃ i j, x = V.str i ∧ y = V.str j ∧ i.length + j.length ≤ sizeLine ∧ Q (V.str (i ++ j)) H) (tCB (fun xs H Q => ∃ i, xs = [V.int i] ∧ i.natAbs.log2 < 1920 ∧ Q (V.str (Str.ofString (toString i))) H) (tCons (tVar 1) tNil)) (tC (.str ":"))) (tCB (fun xs H Q => ∃ i, xs = [V.int i] ∧ i.natAbs.log2 < 1920 ∧ Q (V.str (Str.ofString (toString i))) H) (tCons (tVar 2) tNil)))) rfl scLine.nd (pi_tup (pv 0)) (blkOk_by (N := ["table", "key", "worth"]) (sc := defScope sLine) (by decide +kernel)) (fun _ _ _ _ _ => pg_tup rfl (pgs_cons (pg_name (i := 1) scLine.nd rfl (Or.inl rfl)) (pgs_cons (pg_name (i := 2) scLine.nd rfl (Or.inl rfl)) pgs_nil))) (fun _ _ _ _ _ => pts_nil) (fun _ _ _ _ _ => (pe_op op_add_str (pe_op op_add_str (pe_callTy call_str_int (by rfl) N.str boot_str (pa_cons (pv 1) pa_nil)) pe_str) (pe_callTy call_str_int (by rfl) N.str boot_str (pa_cons (pv 2) pa_nil)))))) pe_str)), ?_⟩
    refine ⟨v, rfl, sz_of (by simp), fun t0 n0 => ?_⟩
    have x0 := Ex.new (o := .tup []) n0
    refine ne_finB (dp_same x0 _ _ dv) (.tup (st_of upd_same) .nil) (sd_rows _) (show sd 1 (.tuple []) = true from rfl) (by decide) (by decide) (ite2 (fun z => ?_) fun z => ?_)
    · have ne : rs ≠ [] := fun e => by
        rw [e, show PyData.eqv (rowsD []) (.tuple []) = true by decide +kernel] at z
        cases z
      have l1 : (" " : Str).length = 1 := by decide +kernel
      have l2 : (":" : Str).length = 1 := by decide +kernel
      refine ⟨⟨" ", rfl⟩, lc_rows (dp_same x0 _ _ dv) ok few (fun r H2 Q' rok x2 q' => ?_) fun L H' x1 hL => ?_⟩
      · have a := (dg_ok rok.1 rok.2.1).l3
        have b := (dg_ok rok.2.2.1 rok.2.2.2).l3
        exact ⟨.int r.1, rfl, r.1, rfl, log_small rok.1 rok.2.1, dg r.1, ":", rfl, rfl, sz_of (by rw [l2]; omega), .int r.2, rfl, r.2, rfl, log_small rok.2.2.1 rok.2.2.2, dg r.1 ++ ":", dg r.2, rfl, rfl, sz_of (by rw [Str.length_append, l2]; omega), q' H2 (Ex.refl H2)⟩
      · refine ⟨" ", L, rs.map wd, rfl, rfl, .inl (sq_of hL), ?_, ?_⟩
        · have := sum_le 7 (ws := rs.map wd) fun w mw => by
            obtain ⟨r, mr, rfl⟩ := List.mem_map.mp mw
            exact (wd_len (ok r mr)).2
          rw [List.length_map] at this ⊢
          rw [l1]
          omega
        · have := q H' (x0.trans x1)
          unfold txt at this
          rw [if_neg ne] at this
          exact this
    · have e : rs = [] := by
        cases rs with
        | nil => rfl
        | cons r rs =>
          have : PyData.eqv (rowsD (r :: rs)) (.tuple []) = false := by
            show PyData.eqv (.tuple (Tc.pairD r :: rs.map Tc.pairD)) (.tuple []) = false
            rw [PyData.eqv, PyData.eqvAll]
          rw [this] at z
          exact absurd rfl z
      have := q _ x0
      unfold txt at this
      rw [if_pos e] at this
      exact this
end
end K42
/-! a comprehension that makes data, by any walk -/
namespace Tc
open PySem L2 Evl
theorem lc_dataW {K : PySem.W.Frag} {σ : L2.St} {H : Hp} {wi : TI} {J : It} {n : Nat} {G : Hp → Prop} {Y : Nat → Hp → V → Hp → Prop} (w : Walk J n G Y) {g : TG} {t : TT} {te : TE} {vs : List Nat} {Q : VK} {α : Type} {k : Nat} (zs : List α) (p : α → Bool) (h : α → PyData) (B : α → L2.St → Hp → Prop) (hw : ∀ R : It → Hp → Prop, R J H → wi σ H R) (hn : zs.length = n) (few : n ≤ 40000)
    (hG : ∀ H', Ex H H' → G H')
    (hb : ∀ i z x H1 H2, zs[i]? = some z → Ex H H1 → Y i H1 x H2 → Ex H1 H2 ∧ ∀ R : L2.St → Hp → Prop, (∀ σ2, wipe σ2 vs = wipe σ vs → B z σ2 H2 → R σ2 H2) → g x (wipe σ vs) H2 R)
    (ht : ∀ z σ2 H2, z ∈ zs → Ex H H2 → B z σ2 H2 → EvT t σ2 H2 (p z))
    (he : ∀ z σ2 H2 H3, z ∈ zs → Ex H H2 → B z σ2 H2 → Ex H2 H3 → p z = true → ∀ Q : VK, (∀ y H4, Ex H3 H4 → Dp K H4 y (h z) → Q y H4) → te σ2 H3 Q)
    (nlh : ∀ z ∈ zs, nl k (h z) = true)
    (hd : ∀ D acc H', H D = none → Ex H H' → H' D = some (.lst acc) → DpAll K H' acc ((zs.filter p).map h) → Q (.ref D) H') : tLc wi g t te vs σ H Q := hw _ fun D hD => by
  refine lc_it w (fun i H' => Ex H H' ∧ ∃ acc, H' D = some (.lst acc) ∧ acc.length ≤ i ∧ DpAll K H' acc (((zs.take i).filter p).map h)) ⟨Ex.new hD, [], upd_same, Nat.le_refl _, .nil⟩ (fun i H' _ q => hG H' q.1) (fun i x H' G' hi q y => ?_) (fun H' q => ?_)
  · obtain ⟨xH, acc, hacc, la, dacc⟩ := q
    obtain ⟨z, hz⟩ : ∃ z, zs[i]? = some z := ⟨_, List.getElem?_eq_getElem (by omega)⟩
    have mz : z ∈ zs := List.mem_of_getElem? hz
    have tk : zs.take (i + 1) = zs.take i ++ [z] := by
      rw [List.take_succ, hz]
      rfl
    obtain ⟨xG, bind⟩ := hb i z x H' G' hz xH y
    refine bind _ fun σ2 hw hB => ⟨hw, ?_⟩
    refine ht z σ2 G' mz (xH.trans xG) hB G' (Ex.refl G') _ fun H3 x3 => ?_
    cases e : p z with
    | true =>
      rw [if_pos rfl]
      refine he z σ2 G' H3 mz (xH.trans xG) hB x3 e _ fun y H4 x4 dy => ⟨acc, x4 _ _ (x3 _ _ (xG _ _ hacc)), sz_lt (by omega), ?_, acc ++ [y], upd_same, by rw [List.length_append]; simp only [List.length_cons, List.length_nil]; omega, ?_⟩
      · intro b o hb
        rw [upd_ne (ne_of_none hb hD)]
        exact x4 _ _ (x3 _ _ (xG _ _ (xH _ _ hb)))
      · rw [tk, List.filter_append, List.filter_cons_of_pos e, List.filter_nil, List.map_append]
        refine (kt_put (x4 _ _ (x3 _ _ (xG _ _ hacc)))).dps (n := k) (fun u mu => ?_) (dps_app (dps_same ((xG.trans x3).trans x4) _ _ dacc) (.cons dy .nil))
        rcases List.mem_append.mp mu with mu | mu
        · obtain ⟨u', mu', rfl⟩ := List.mem_map.mp mu
          exact nlh u' (List.mem_of_mem_take ((List.mem_filter.mp mu').1))
        · rw [List.mem_singleton.mp mu]
          exact nlh z mz
    | false =>
      rw [if_neg Bool.false_ne_true]
      refine ⟨(xH.trans xG).trans x3, acc, x3 _ _ (xG _ _ hacc), Nat.le_succ_of_le la, ?_⟩
      rw [tk, List.filter_append, List.filter_cons_of_neg (by rw [e]; exact Bool.false_ne_true), List.filter_nil, List.append_nil]
      exact dps_same (xG.trans x3) _ _ dacc
  · obtain ⟨xH, acc, hacc, la, dacc⟩ := q
    rw [← hn, List.take_length] at dacc
    exact hd D acc H' hD xH hacc dacc
end Tc
namespace K42
open PySem L2 L2H PyProof.Rows Tc Evl
abbrev sRn : Stmt := topS 50
theorem scRn : FnScope ["word"] ["word"] (defScope sRn) := ⟨rfl, rfl, rfl, by decide +kernel, rfl, by decide +kernel, by decide +kernel⟩
def spRn : Sp := fun vs H Q _ => ∃ i : Int, vs = [.str (dg i)] ∧ 0 ≤ i ∧ i < 1000 ∧ ∀ H', Ex H H' → Q (.int i) H'
section
variable {P : Program} {w : World} {K : PySem.W.Frag} {mg : Str → Option Value} {base : Heap}
theorem ok_rn {f : Addr} {fd : FuncData} {k : Nat} (F : Fun K "read_number" "read_number" sRn f fd) (N : Names mg) (hMf : ∃ t, mg "MOST_FIGURES" = some (.int 12 t)) : FnOk P w K mg base CX0 (k + 1) f fd ["word"] spRn := by
  refine F.ok scRn (fun vs H Q E h => ?_) (fun cdv A outer s H vs Q E hr h => ?_)
  · obtain ⟨i, rfl, _⟩ := h
    rfl
  · obtain ⟨i, rfl, h0, h1, q⟩ := h
    obtain ⟨tm, hM⟩ := hMf
    have a := dg_ok h0 h1
    refine ⟨_, pss_cons (ps_if (PW.pt (pw_or (pt_not (pt_val (pe_m0 PySem.F.slot_str_isascii PySem.F.type_str_isascii mt_isascii (pv 0)))) (pw_or (pt_not (pt_val (pe_m0 PySem.F.slot_str_isdigit PySem.F.type_str_isdigit mt_isdigit (pv 0)))) (pw_or1 (pt_cmpR op_gt (pe_callB call_len_str (by rfl) N.len PySem.boot_len (pa_cons (pv 0) pa_nil)) (pe_glob (v := .int 12) (by rfl) hM ⟨_, rfl⟩) (nomark _)))))) pss_never pss_nil)
      (pss_cons (ps_if (PW.pt (pw_and (pt_cmpR op_eq (pe_ix ix_str (pv 0) pe_int (fun _ _ => rfl)) pe_str (nomark _)) (pw_and1 (pt_cmpR op_ne (pv 0) pe_str (nomark _))))) pss_never pss_nil)
      (pss_one (ps_ret (pe_callTy call_int_str (by rfl) N.int boot_int (pa_cons (pv 0) pa_nil))))), ?_⟩
    refine s_seq (s_if (b := false) (et_or (a := false) (b := false) (et_not (a := true) (et_B (fun H1 _ Q' q' => ⟨.str (dg i), rfl, ⟨_, rfl⟩, dg i, rfl, rfl, trivial, by rw [a.ascii]; exact q' H1 (Ex.refl H1)⟩))) fun _ => et_or (a := false) (b := false) (et_not (a := true) (et_B (fun H1 _ Q' q' => ⟨.str (dg i), rfl, ⟨_, rfl⟩, dg i, rfl, rfl, trivial, by rw [a.digit]; exact q' H1 (Ex.refl H1)⟩))) fun _ => et_is (et_test (ev_op (ev_cb (ea_cons (ev_var rfl) ea_nil) fun H1 Q' _ q' => ⟨dg i, rfl, sz_of (by have := a.l3; omega), q' H1 (Ex.refl H1)⟩) ev_c rv_I0)) (decide_eq_false (by have := a.l3; omega))) (fun z => by cases z) fun _ H1 x1 => s_next ?_)
    try dsimp only
    obtain ⟨c, tl, ec⟩ : ∃ c tl, (dg i).cps.toList = c :: tl := by
      cases e : (dg i).cps.toList with
      | nil =>
        have := a.l1
        have e2 : (dg i).length = (dg i).cps.toList.length := rfl
        rw [e] at e2
        rw [e2] at this
        exact absurd this (by decide)
      | cons c tl => exact ⟨c, tl, rfl⟩
    have zero_one : ("0" : Str) = ⟨#[48]⟩ := by decide +kernel
    refine s_seq (s_if (b := false) (et_is (et_and (a := decide (V.str ⟨#[c]⟩ = V.str "0")) (b := !decide (V.str (dg i) = V.str "0")) (et_test (ev_op (ev_op (ev_var rfl) ev_c (rv_ixS (i := 0) (c := c) (by have := a.l3; omega) (by rw [ec]; exact atI_nat (j := 0) rfl))) ev_c (rv_eq rfl))) fun _ => et_test (ev_op (ev_var rfl) ev_c (rv_ne rfl))) ?_) (fun z => by cases z) fun _ H2 x2 => s_next ?_)
    · by_cases hc : c = 48
      · rw [a.zero (by rw [ec, hc]; rfl)]
        simp
      · have : ¬ (V.str ⟨#[c]⟩ = V.str "0") := fun e => hc (by
          have := V.str.inj e
          rw [zero_one] at this
          have := congrArg (fun x : Str => x.cps.toList) this
          exact (List.cons.inj this).1)
        rw [decide_eq_false this]
        rfl
    · exact ⟨.str (dg i), rfl, dg i, i, rfl, a.val, by have := a.l3; omega, q H2 (x1.trans x2)⟩
abbrev sRns : Stmt := topS 51
theorem scRns : FnScope ["words", "word"] ["words"] (defScope sRns) := ⟨rfl, rfl, rfl, by decide +kernel, rfl, by decide +kernel, by decide +kernel⟩
def spRns : Sp := fun vs H Q _ => ∃ (p : Addr) (ns : List Int), vs = [.ref p] ∧ H p = some (.lst ((ns.map dg).map V.str)) ∧ ns.length ≤ 1000 ∧ (∀ n ∈ ns, 0 ≤ n ∧ n < 1000) ∧ ∀ L H', H L = none → Ex H H' → H' L = some (.lst (ns.map V.int)) → Q (.ref L) H'
theorem ok_rns {f : Addr} {fd : FuncData} {kR k : Nat} (F : Fun K "read_numbers" "read_numbers" sRns f fd) (dR : Own P w K mg base "read_number" ["word"] kR spRn) (hR : kR ≤ k) : FnOk P w K mg base CX0 (k + 1) f fd ["words"] spRns := by
  refine F.ok scRns (fun vs H Q E h => ?_) (fun cdv A outer s H vs Q E hr h => ?_)
  · obtain ⟨p, ns, rfl, _⟩ := h
    rfl
  · obtain ⟨p, ns, rfl, hp, ln, ok, q⟩ := h
    refine ⟨_, pss_one (ps_ret (pe_lc (own := [("word", 1)]) (g := gName 1) (tt := tYes) (te := tCall spRn [] E0 (tCons (tVar 1) tNil)) rfl scRns.nd (pi_list (pv 0)) (blkOk_by (N := ["words", "word"]) (sc := defScope sRns) (by decide +kernel)) (fun _ _ _ _ _ => pg_name (i := 1) scRns.nd rfl (Or.inl rfl)) (fun _ _ _ _ _ => pts_nil) (fun _ _ _ _ _ => (pe_own dR hr hR (by rfl) (pa_cons (pv 1) pa_nil))))), ?_⟩
    refine ⟨.ref p, rfl, p, rfl, ⟨_, sq_of hp⟩, fun D hD => ?_⟩
    refine lc_list (K := K) (xs := (ns.map dg).map V.str) (fun i H' => Ex H H' ∧ H' D = some (.lst ((ns.take i).map V.int))) ⟨Ex.new hD, upd_same⟩ (fun i H' _ pq => sq_of (pq.1 _ _ hp)) (fun i x H' hx pq => ?_) (fun H' pq => ?_)
    · obtain ⟨x1, h1⟩ := pq
      rw [List.getElem?_map, List.getElem?_map] at hx
      obtain ⟨_, h2, rfl⟩ := Option.map_eq_some_iff.mp hx
      obtain ⟨n, hn, rfl⟩ := Option.map_eq_some_iff.mp h2
      have nb := ok n (List.mem_of_getElem? hn)
      have il := (List.getElem?_eq_some_iff.mp hn).1
      refine ⟨rfl, iteT (B := Ex H H' ∧ H' D = some (.lst ((ns.take (i + 1)).map V.int))) ?_⟩
      refine ⟨.str (dg n), rfl, n, rfl, nb.1, nb.2, fun H3 x3 => ⟨_, x3 _ _ h1, sz_lt (by rw [List.length_map, List.length_take]; omega), (x1.trans x3).mut hD, ?_⟩⟩
      rw [upd_same, take_snoc hn, List.map_append]
      rfl
    · rw [List.length_map, List.length_map, List.take_of_length_le (Nat.le_refl _)] at pq
      exact q D H' hD pq.1 pq.2
abbrev rTupOf (K : PySem.W.Frag) : List V → Hp → VK → Prop := fun xs H Q => ∃ p ys, xs = [.ref p] ∧ ((SqL K H p ys ∧ ∀ l, H l = none → Q (.ref l) (upd H l (.tup ys))) ∨ (SqT K H p ys ∧ Q (.ref p) H))
abbrev rSplit : V → List V → Hp → VK → Prop := fun x xs H Q => ∃ a b, x = .str a ∧ xs = [.str b] ∧ (b.length == 0) = false ∧ a.length + 2 ≤ sizeLine ∧ rNewStrs (Txt.split a b) H Q
theorem txt_len {rs : List (Int × Int)} (ok : ∀ r ∈ rs, rowOk r) (few : rs.length ≤ 100) : (txt rs).length ≤ 800 := by
  unfold txt
  by_cases e : rs = []
  · rw [if_pos e]
    decide +kernel
  · rw [if_neg e, blank_one, join_str]
    have h := StrLaws.join_length_le ⟨#[32]⟩ (rs.map wd)
    have h2 := sum_le 7 (ws := rs.map wd) fun w mw => by
      obtain ⟨r, mr, rfl⟩ := List.mem_map.mp mw
      exact (wd_len (ok r mr)).2
    rw [List.length_map] at h h2
    have l1 : (⟨#[32]⟩ : Str).length = 1 := rfl
    rw [l1] at h
    omega
theorem lc_words {K : PySem.W.Frag} {wi : TI} {g : TG} {t : TT} {te : TE} {vs : List Nat} {σ : L2.St} {H : Hp} {Q : VK} {ws : List V} (hw : ∀ R : It → Hp → Prop, (∀ p H1, Ex H H1 → H1 p = some (.lst ws) → R (Itl K p) H1) → wi σ H R)
    (rest : ∀ p H1, Ex H H1 → H1 p = some (.lst ws) → tLc (fun _ H R => R (Itl K p) H) g t te vs σ H1 Q) : tLc wi g t te vs σ H Q := hw _ fun p H1 x1 hp => rest p H1 x1 hp
abbrev sRdt : Stmt := topS 52
theorem scRdt : FnScope ["text", "table", "word"] ["text"] (defScope sRdt) := ⟨rfl, rfl, rfl, by decide +kernel, rfl, by decide +kernel, by decide +kernel⟩
def spRdt (K : PySem.W.Frag) : Sp := fun vs H Q _ => ∃ rs : List (Int × Int), vs = [.str (txt rs)] ∧ (∀ r ∈ rs, rowOk r) ∧ rs.length ≤ 100 ∧ K42b.isTable (rowsD rs) = true ∧ ∀ v H', Ex H H' → Dp K H' v (rowsD rs) → Q v H'
theorem ok_rdt {f : Addr} {fd : FuncData} {kRs kI k : Nat} (F : Fun K "read_table" "read_table" sRdt f fd) (N : Names mg) (dRs : Own P w K mg base "read_numbers" ["words"] kRs spRns) (hRs : kRs ≤ k) (dI : Own P w K mg base "is_table" ["thing"] kI (spTold K K42b.isTable)) (hI : kI ≤ k) : FnOk P w K mg base CX0 (k + 1) f fd ["text"] (spRdt K) := by
  refine F.ok scRdt (fun vs H Q E h => ?_) (fun cdv A outer s H vs Q E hr h => ?_)
  · obtain ⟨rs, rfl, _⟩ := h
    rfl
  · obtain ⟨rs, rfl, ok, few, it, q⟩ := h
    have lt := txt_len ok few
    refine ⟨_, pss_cons (ps_if (pt_not (pt_val (pe_callB call_isi (by rfl) N.isinstance boot_isinstance (pa_cons (pv 0) (pa_cons (pe_bltn (v := .ty "str") (by rfl) N.str boot_str rfl) pa_nil))))) pss_never pss_nil)
      (pss_cons (ps_if (pt_cmpR op_eq (pv 0) pe_str (nomark _)) (pss_one (ps_ret (pe_tup pa_nil))) pss_nil)
      (pss_cons (ps_set (i := 1) scRdt.nd rfl (.inl rfl) (pe_callTy cr_tupP (by rfl) N.tuple boot_tuple (pa_cons (pe_lc (own := [("word", 2)]) (g := gName 2) (tt := tYes) (te := tCB (rTupOf K) (tCons (tCall spRns [] E0 (tCons (tM1 rSplit (tVar 2) (tC (.str ":"))) tNil)) tNil)) rfl scRdt.nd (pi_list (pe_split (pv 0) pe_str)) (blkOk_by (N := ["text", "table", "word"]) (sc := defScope sRdt) (by decide +kernel)) (fun _ _ _ _ _ => pg_name (i := 2) scRdt.nd rfl (Or.inl rfl)) (fun _ _ _ _ _ => pts_nil) (fun _ _ _ _ _ => (pe_callTy call_tuple_of (by rfl) N.tuple boot_tuple (pa_cons (pe_own dRs hr hRs (by rfl) (pa_cons (pe_split (pv 2) pe_str) pa_nil)) pa_nil)))) pa_nil)))
      (pss_cons (ps_if (pt_not (pt_val (pe_own dI hr hI (by rfl) (pa_cons (pv 1) pa_nil)))) pss_never pss_nil)
      (pss_one (ps_ret (pv 1)))))), ?_⟩
    refine s_seq (s_if (b := false) (et_not (a := true) (et_B (ev_str (d := .str (txt rs)) (ev_var rfl) (.str _)))) (fun z => by cases z) fun _ H1 x1 => s_next ?_)
    try dsimp only
    by_cases ne : rs = []
    · refine s_seq (s_if (b := true) (et_is (et_test (ev_op (ev_var rfl) ev_c (rv_eq rfl))) (decide_eq_true (by unfold txt; rw [if_pos ne]))) (fun _ H2 x2 => ?_) fun z => by cases z)
      refine ⟨sz_of (by simp), fun t nt => ?_⟩
      refine q _ _ ((x1.trans x2).trans (Ex.new nt)) ?_
      rw [ne]
      exact .tup (st_of upd_same) .nil
    · refine s_seq (s_if (b := false) (et_is (et_test (ev_op (ev_var rfl) ev_c (rv_eq rfl))) (decide_eq_false fun e => not_none ne ok (V.str.inj e))) (fun z => by cases z) fun _ H2 x2 => s_next ?_)
      try dsimp only
      refine s_seq (t_asg ?_)
      dsimp only [tCB, tCons]
      refine lc_words (K := K) (ws := (rs.map wd).map V.str) (fun R hR => ⟨.str (txt rs), rfl, ⟨_, rfl⟩, txt rs, " ", rfl, rfl, by decide +kernel, sz_of (by omega), fun p np => ?_⟩) fun p H3 xp hp => ?_
      · rw [txt_split ne ok]
        exact ⟨p, rfl, ⟨_, sq_of upd_same⟩, hR p _ (Ex.new np) upd_same⟩
      refine lc_dataW (K := K) (k := 1) (walk_list (K := K) (a := p) (xs := (rs.map wd).map V.str)) rs (fun _ => true) Tc.pairD (fun r σ2 _ => σ2 = [some (.str (txt rs)), none, some (.str (wd r))]) (fun R r => r) (by rw [List.length_map, List.length_map]) (by rw [List.length_map, List.length_map]; omega) (fun H' x => sq_of (x _ _ hp)) (fun i r x H4 H5 hz x4 y => ?_) (fun r σ2 H4 _ _ e => et_yes) (fun r σ2 H4 H5 mr x4 e x5 _ Q' q' => ?_) (fun r _ => rfl) (fun L acc H4 nL x4 hL dA => ?_)
      · obtain ⟨rfl, hx⟩ := y
        refine ⟨Ex.refl _, fun R r' => ?_⟩
        rw [List.getElem?_map, List.getElem?_map, hz] at hx
        cases hx
        exact r' _ rfl rfl
      · subst e
        have rok := ok r mr
        have wl := wd_len rok
        refine ⟨.str (wd r), rfl, ⟨_, rfl⟩, wd r, ":", rfl, rfl, by decide +kernel, sz_of (by omega), fun p2 np2 => ?_⟩
        rw [wd_split rok]
        have x6 : Ex H5 (upd H5 p2 (.lst ([dg r.1, dg r.2].map V.str))) := Ex.new np2
        refine ⟨p2, [r.1, r.2], rfl, upd_same, by simp, fun n mn => ?_, fun L2 H6 nL2 xL2 hL2 => ⟨L2, [.int r.1, .int r.2], rfl, .inl ⟨sq_of hL2, fun t nt => ?_⟩⟩⟩
        · simp only [List.mem_cons, List.not_mem_nil, or_false] at mn
          rcases mn with rfl | rfl
          · exact ⟨rok.1, rok.2.1⟩
          · exact ⟨rok.2.2.1, rok.2.2.2⟩
        · exact q' _ _ ((x6.trans xL2).trans (Ex.new nt)) (.tup (st_of upd_same) (.cons (.int _) (.cons (.int _) .nil)))
      · have eA : (rs.filter fun _ => true).map Tc.pairD = rs.map Tc.pairD := by rw [List.filter_eq_self.mpr fun _ _ => rfl]
        rw [eA] at dA
        refine ⟨L, acc, rfl, sq_of hL, fun t o nt od => g_name ?_⟩
        have xt := Ex.new (o := .frz o (.tup acc)) nt
        have dt : Dp K (upd H4 t (.frz o (.tup acc))) (.ref t) (rowsD rs) := .tup (PT.st ⟨o, upd_same, od⟩) (dps_same xt _ _ dA)
        have xx := (((x1.trans x2).trans xp).trans x4).trans xt
        generalize upd H4 t (.frz o (.tup acc)) = H5 at dt xx
        try dsimp only
        refine s_seq (s_if (b := false) (et_is (et_not (et_B (ev_told (ev_var rfl) dt))) (by rw [it]; rfl)) (fun z => by cases z) fun _ H6 x6 => s_next ?_)
        exact ⟨.ref t, rfl, q _ _ (xx.trans x6) (dp_same x6 _ _ dt)⟩
end
end K42
namespace Tc
open PySem PySem.Spec PyProof.Rows L2 He
end Tc
/-! sorted lists: one order for each bag of numbers or texts -/
namespace Tc
open PySem PySem.Spec PyProof.Rows L2
/-! ### numbers -/
/-! ### texts -/
theorem eqv_rowsA : ∀ (a b : List (Int × Int)), PyData.eqvAll (a.map Tc.pairD) (b.map Tc.pairD) = decide (a = b)
  | [], [] => rfl
  | [], _ :: _ => rfl
  | _ :: _, [] => rfl
  | r :: a, t :: b => by
    rw [List.map_cons, List.map_cons, PyData.eqvAll, eqv_rowsA a b]
    have e : PyData.eqv (Tc.pairD r) (Tc.pairD t) = decide (r = t) := by
      obtain ⟨r1, r2⟩ := r
      obtain ⟨t1, t2⟩ := t
      show PyData.eqv (.tuple [.int r1, .int r2]) (.tuple [.int t1, .int t2]) = _
      simp [PyData.eqv, PyData.eqvAll]
      rfl
    rw [e, ← Bool.decide_and]
    exact decide_eq_decide.mpr ⟨fun z => by rw [z.1, z.2], fun z => by cases z; exact ⟨rfl, rfl⟩⟩
theorem eqv_rowsD2 (a b : List (Int × Int)) : PyData.eqv (rowsD a) (rowsD b) = decide (a = b) := by
  show PyData.eqvAll (a.map Tc.pairD) (b.map Tc.pairD) = _
  exact eqv_rowsA a b
end Tc
namespace K42
open PySem L2 L2H PyProof.Rows Tc Evl
theorem Fr_kt {b : Addr} {H H' : Hp} (f : Tc.Fr b H H') (hb : Bag H b) : Kt H H' := Kt.but (fun a => a = b) (fun a z => by
  obtain ⟨x, y, h, _⟩ := hb
  rw [z]
  exact ⟨_, h, (fun xs z => by cases z), fun o xs z => by cases z⟩) fun a o n h => f.at h n
theorem nl_rowsD (rs : List (Int × Int)) : nl 3 (rowsD rs) = true := by
  refine List.all_eq_true.mpr fun d md => ?_
  obtain ⟨r, _, rfl⟩ := List.mem_map.mp md
  rfl
theorem sd3 (rs : List (Int × Int)) : sd 3 (.tuple [rowsD rs, .str "", .int 0]) = true := sd_3 (sd_rows _) (by decide +kernel) rfl
def nines : List Int := (List.range 100).map fun i : Nat => (10 : Int) * (i : Int) + 9
theorem nines_up : nines.Pairwise (· < ·) := by decide +kernel
theorem nines_in : ∀ k ∈ nines, 0 ≤ k ∧ k < 1000 := by decide +kernel
theorem seq_mid {a b : TS} {D : Ends} {σ : L2.St} {H : Hp} (R : L2.St → Hp → Prop) (h1 : (∀ σ' G, R σ' G → b D σ' G) → tSeq a b D σ H) (h2 : ∀ σ' G, R σ' G → b D σ' G) : tSeq a b D σ H := h1 h2
structure RsOk (rs : List (Int × Int)) : Prop where
  up : rs.Pairwise fun x y => x.1 < y.1
  inn : ∀ r ∈ rs, 0 ≤ r.1 ∧ r.1 < 1000 ∧ 0 ≤ r.2 ∧ r.2 < 1000
  few : rs.length ≤ 100
theorem table_ok {rs : List (Int × Int)} (h : RsOk rs) : K42b.isTable (rowsD rs) = true := by
  have go : ∀ (rs : List (Int × Int)) (l : Int), (rs.Pairwise fun x y => x.1 < y.1) → (∀ r ∈ rs, l ≤ r.1 ∧ 0 ≤ r.1 ∧ r.1 < 1000 ∧ 0 ≤ r.2 ∧ r.2 < 1000) → K42b.rising l (rs.map Tc.pairD) = true := fun rs => by
    induction rs with
    | nil => exact fun _ _ _ => rfl
    | cons r rs ih =>
      intro l up inn
      obtain ⟨u1, u2⟩ := List.pairwise_cons.mp up
      have hr := inn r List.mem_cons_self
      rw [List.map_cons, K42b.rising, ih (K42b.keyOf (Tc.pairD r) + 1) u2 fun s m => ⟨by have := u1 s m; show r.1 + 1 ≤ s.1; omega, (inn s (List.mem_cons_of_mem _ m)).2⟩]
      have k1 : K42b.isRow (Tc.pairD r) = true := by
        show ((decide (0 ≤ r.1) && decide (r.1 < 1000)) && (decide (0 ≤ r.2) && decide (r.2 < 1000))) = true
        rw [decide_eq_true hr.2.1, decide_eq_true hr.2.2.1, decide_eq_true hr.2.2.2.1, decide_eq_true hr.2.2.2.2]
        rfl
      have k2 : decide (l ≤ K42b.keyOf (Tc.pairD r)) = true := decide_eq_true hr.1
      rw [k1, k2]
      rfl
  show (decide ((rs.map Tc.pairD).length ≤ 100) && K42b.rising 0 (rs.map Tc.pairD)) = true
  rw [go rs 0 h.up fun r m => ⟨(h.inn r m).1, h.inn r m⟩, decide_eq_true (by rw [List.length_map]; exact h.few)]
  rfl
abbrev sNoTx : Stmt := topS 69
theorem scNoTx : FnScope ["way", "text", "found", "kind", "row", "e"] ["way", "text"] (defScope sNoTx) := ⟨rfl, rfl, rfl, by decide +kernel, rfl, by decide +kernel, by decide +kernel⟩
def spNoTx (K : PySem.W.Frag) : Sp := fun vs H Q _ => ∃ rs : List (Int × Int), vs = [.int 0, .str (txt rs)] ∧ RsOk rs ∧ ∀ v H', Ex H H' → Dp K H' v (.tuple [rowsD rs, .str "", .int 0]) → Q v H'
section
variable {P : Program} {w : World} {K : PySem.W.Frag} {mg : Str → Option Value} {base : Heap}
theorem ok_noTx {f CE : Addr} {fd : FuncData} {kR k : Nat} (F : Fun K "_law_no_text" "_law_no_text" sNoTx f fd) (mE : mg "NoText" = some (.ref CE)) (dRd : Own P w K mg base "read_table" ["text"] kR (spRdt K)) (hRd : kR ≤ k) : FnOk P w K mg base CX0 (k + 1) f fd ["way", "text"] (spNoTx K) := by
  refine F.ok scNoTx (fun vs H Q E h => ?_) (fun cdv A outer s H vs Q E hr h => ?_)
  · obtain ⟨rs, rfl, _⟩ := h
    rfl
  · obtain ⟨rs, rfl, ok, q⟩ := h
    refine ⟨_, pss_cons (ps_set (i := 2) scNoTx.nd rfl (.inl rfl) pe_non) (pss_cons (ps_set (i := 3) scNoTx.nd rfl (.inl rfl) pe_str) (pss_cons (ps_set (i := 4) scNoTx.nd rfl (.inl rfl) pe_int)
      (pss_cons (L2N.ps_try_as (i := 5) (c := .ref CE) (tb := fun W => tIfS (tTest (tOp rEq (tVar 0) (tC (.int 0)))) (tAsg (tCall (spRdt K) [] E0 (tCons (tVar 1) tNil)) (gName 2)) tNever) (ts := fun a cls d => tNever) rfl rfl scNoTx.nd rfl rfl ⟨rfl, by decide, .inl mE⟩ none_out
        (fun W pn xe tk _ => pss_one (ps_if (pt_cmpR op_eq (pv 0) pe_int (nomark _)) (pss_one (ps_set (i := 2) scNoTx.nd rfl (.inl rfl) (pe_own dRd hr hRd (by rfl) (pa_cons (pv 1) pa_nil)))) pss_never))
        (fun a oe cls d pn hz hf => pss_never))
      (pss_one (ps_ret (pe_tup (pa_cons (pv 2) (pa_cons (pv 3) (pa_cons (pv 4) pa_nil))))))))), ?_⟩
    refine q_asg ev_c fun H1 x1 => q_asg ev_c fun H2 x2 => q_asg ev_c fun H3 x3 => s_seq ?_
    refine s_if (b := true) (et_is (et_test (ev_op (ev_var rfl) ev_c (rv_eq rfl))) (decide_eq_true rfl)) (fun _ H4 x4 => ?_) fun z => by cases z
    refine ⟨.str (txt rs), rfl, rs, rfl, ok.inn, ok.few, table_ok ok, fun v H5 x5 dv => g_name ?_⟩
    refine ⟨v, rfl, .str "", rfl, .int 0, rfl, sz_of (by simp), fun t nt => ?_⟩
    have xt := Ex.new (o := .tup [v, .str "", .int 0]) nt
    exact q _ _ (((((x1.trans x2).trans x3).trans x4).trans x5).trans xt) (.tup (st_of upd_same) (.cons (dp_same xt _ _ dv) (.cons (.str _) (.cons (.int _) .nil))))
end
abbrev sLaw : Stmt := topS 70
theorem scLaw : FnScope ["script", "last", "k", "bag", "table", "text", "at"] ["script"] (defScope sLaw) := ⟨rfl, rfl, rfl, by decide +kernel, rfl, by decide +kernel, by decide +kernel⟩
def spLaw (K : PySem.W.Frag) : Sp := fun vs H Q _ => ∃ (a : Addr) (ns : List Int), vs = [.ref a] ∧ SqL K H a (ns.map V.int) ∧ ns.length ≤ 63 ∧ ∀ H', Q (.bl true) H'
theorem ev_min2 {σ : L2.St} {H : Hp} {ta tb : TE} {i j : Int} (ha : Ev ta σ H (.int i)) (hb : Ev tb σ H (.int j)) : Ev (tCB (fun xs H Q => ∃ i j, xs = [.int i, .int j] ∧ Q (.int (if j < i then j else i)) H) (tCons ta (tCons tb tNil))) σ H (.int (if j < i then j else i)) :=
  ev_cb (ea_cons ha (ea_cons hb ea_nil)) fun H1 _ _ q => ⟨i, j, rfl, q H1 (Ex.refl H1)⟩
section
variable {P : Program} {w : World} {K : PySem.W.Frag} {mg : Str → Option Value} {base : Heap}
set_option maxHeartbeats 4000000 in
theorem ok_law {f : Addr} {fd : FuncData} {kT kB kTab kKs kTt kRd kLi kNo kIt k : Nat} (F : Fun K "law" "law" sLaw f fd) (N : Names mg) (dT : Own P w K mg base "_law_take" ["bag", "many"] kT spTake) (hT : kT ≤ k) (dB : Own P w K mg base "_law_bag" ["script", "k"] kB (spBag K)) (hB : kB ≤ k) (dTab : Own P w K mg base "_law_table" ["bag", "keys"] kTab (spTabR K)) (hTab : kTab ≤ k) (dKs : Own P w K mg base "_law_keys" ["bag"] kKs spKeysR) (hKs : kKs ≤ k) (dTt : Own P w K mg base "table_text" ["table"] kTt (spTt K)) (hTt : kTt ≤ k) (dRd : Own P w K mg base "read_table" ["text"] kRd (spRdt K)) (hRd : kRd ≤ k) (dLi : Own P w K mg base "_law_table_line" ["table"] kLi (spRt K)) (hLi : kLi ≤ k) (dNo : Own P w K mg base "_law_no_text" ["way", "text"] kNo (spNoTx K)) (hNo : kNo ≤ k) (dIt : Own P w K mg base "_law_is_table" ["thing"] kIt (K42b.spToldS K K42b.isTable)) (hIt : kIt ≤ k) : FnOk P w K mg base CX0 (k + 1) f fd ["script"] (spLaw K) := by
  refine F.ok scLaw (fun vs H Q E h => ?_) (fun cdv A outer s H vs Q E hr h => ?_)
  · obtain ⟨a, ns, rfl, _⟩ := h
    rfl
  · obtain ⟨a, ns, rfl, hs, few, q⟩ := h
    refine ⟨_, (pss_cons (ps_if (PW.pt (pw_or (pt_cmpR op_ne (pe_own dTt hr hTt (by rfl) (pa_cons (pe_tup pa_nil) pa_nil)) pe_str (nomark _)) (pw_or (pt_cmpR (op_neD hr.units) (pe_own dRd hr hRd (by rfl) (pa_cons pe_str pa_nil)) (pe_tup pa_nil) (nomark _)) (pw_or1 (pt_cmpR (op_neD hr.units) (pe_own dRd hr hRd (by rfl) (pa_cons pe_str pa_nil)) (pe_tup (pa_cons (pe_tup (pa_cons pe_int (pa_cons pe_int pa_nil))) pa_nil)) (nomark _)))))) (pss_one (ps_ret pe_bl)) pss_nil)
      (pss_cons (ps_set (i := 1) scLaw.nd rfl (by first | exact .inl rfl | exact .inr rfl) (pe_tup pa_nil))
      (pss_cons (ps_for PassesOwn.never rfl (pi_range1 rfl N.range (pa_cons (pe_op op_add pe_int (pe_callB (call_min2 rfl) (by rfl) N.min boot_min (pa_cons (pe_callB call_len_seq (by rfl) N.len PySem.boot_len (pa_cons (pv 0) pa_nil)) (pa_cons pe_int pa_nil)))) pa_nil)) (pg_name (i := 2) scLaw.nd rfl (by first | exact .inl rfl | exact .inr rfl)) (pss_cons (ps_set (i := 3) scLaw.nd rfl (by first | exact .inl rfl | exact .inr rfl) (pe_own dB hr hB (by rfl) (pa_cons (pv 0) (pa_cons (pv 2) pa_nil))))
      (pss_cons (ps_set (i := 4) scLaw.nd rfl (by first | exact .inl rfl | exact .inr rfl) (pe_own dTab hr hTab (by rfl) (pa_cons (pv 3) (pa_cons (pe_own dKs hr hKs (by rfl) (pa_cons (pv 3) pa_nil)) pa_nil))))
      (pss_cons (ps_if (pt_cmpR op_eq (pe_own dT hr hT (by rfl) (pa_cons (pv 3) (pa_cons pe_int pa_nil))) pe_int (nomark _)) (pss_one (ps_set (i := 4) scLaw.nd rfl (by first | exact .inl rfl | exact .inr rfl) (pe_callTy cr_tupP (by rfl) N.tuple boot_tuple (pa_cons (pe_lc (own := [("at", 6)]) (g := gName 6) (tt := tYes) (te := tTup (tCons (tOp (rI0 fun i j => .int (i + j)) (tOp (rI CMul fun i j => .int (i * j)) (tC (.int 10)) (tVar 6)) (tC (.int 9))) (tCons (tCall spTake [] E0 (tCons (tVar 3) (tCons (tC (.int 1000)) tNil))) tNil))) rfl scLaw.nd (pi_range1 rfl N.range (pa_cons pe_int pa_nil)) (blkOk_by (N := ["script", "last", "k", "bag", "table", "text", "at"]) (sc := defScope sLaw) (by decide +kernel)) (fun _ _ _ _ _ => pg_name (i := 6) scLaw.nd rfl (Or.inl rfl)) (fun _ _ _ _ _ => pts_nil) (fun _ _ _ _ _ => (pe_tup (pa_cons (pe_op op_add (pe_op op_mul pe_int (pv 6)) pe_int) (pa_cons (pe_own dT hr hT (by rfl) (pa_cons (pv 3) (pa_cons pe_int pa_nil))) pa_nil))))) pa_nil)))) pss_nil)
      (pss_cons (ps_set (i := 5) scLaw.nd rfl (by first | exact .inl rfl | exact .inr rfl) (pe_own dTt hr hTt (by rfl) (pa_cons (pv 4) pa_nil)))
      (pss_cons (ps_if (PW.pt (pw_or (pt_cmpR op_ne (pv 5) (pe_own dLi hr hLi (by rfl) (pa_cons (pv 4) pa_nil)) (nomark _)) (pw_or1 (pt_cmpR (op_neD hr.units) (pe_own dNo hr hNo (by rfl) (pa_cons pe_int (pa_cons (pv 5) pa_nil))) (pe_tup (pa_cons (pv 4) (pa_cons pe_str (pa_cons pe_int pa_nil)))) (nomark _))))) (pss_one (ps_ret pe_bl)) pss_nil)
      (pss_cons (ps_if (PW.pt (pw_or (pt_not (pt_val (pe_own dIt hr hIt (by rfl) (pa_cons (pe_own dRd hr hRd (by rfl) (pa_cons (pv 5) pa_nil)) pa_nil)))) (pw_or1 (pt_cmpR op_ne (pe_cmpR op_eq (pv 5) (pe_own dTt hr hTt (by rfl) (pa_cons (pv 1) pa_nil)) (nomark _)) (pe_cmpR (op_eqD hr.units) (pv 4) (pv 1) (nomark _)) (nomark _))))) (pss_one (ps_ret pe_bl)) pss_nil)
      (pss_one (ps_set (i := 1) scLaw.nd rfl (by first | exact .inl rfl | exact .inr rfl) (pv 4))))))))))
      (pss_one (ps_ret pe_bl))))), ?_⟩
    have hmn : 0 ≤ 1 + (if (30 : Int) < ((ns.map V.int).length : Int) then (30 : Int) else ((ns.map V.int).length : Int)) ∧ 1 + (if (30 : Int) < ((ns.map V.int).length : Int) then (30 : Int) else ((ns.map V.int).length : Int)) ≤ 100 := by
      split <;> omega
    have ok0 : RsOk [] := ⟨.nil, fun r m => (by cases m), Nat.zero_le _⟩
    have ok1 : RsOk [(0, 0)] := ⟨List.pairwise_singleton _ _, fun r m => by rw [List.mem_singleton.mp m]; decide, by decide⟩
    have t0 : txt [] = "none" := rfl
    have t1 : txt [(0, 0)] = "0:0" := by decide +kernel
    refine s_seq (s_if (b := false) (et_or (a := false) (b := false) (fun J xJ Q' q' => ?_) fun _ => et_or (a := false) (b := false) (fun J xJ Q' q' => ?_) fun _ => fun J xJ Q' q' => ?_) (fun z => by cases z) fun _ H1 x1 => s_next ?_)
    · refine ⟨sz_of (by simp), fun t nt => ⟨.ref t, [], rfl, .tup (st_of upd_same) .nil, table_ok ok0, fun r m => (by cases m), Nat.zero_le _, fun H' x' => ⟨rfl, _, rfl, ?_⟩⟩⟩
      rw [t0, decide_eq_true rfl]
      exact q' H' ((Ex.new nt).trans x')
    · refine ⟨[], by rw [t0]; rfl, fun r m => (by cases m), Nat.zero_le _, table_ok ok0, fun v H' x' dv => ⟨sz_of (by simp), fun t nt => ?_⟩⟩
      have xt := Ex.new (o := .tup []) nt
      exact ne_fin (d := .tuple []) (n := 1) (dp_same xt _ _ dv) (.tup (st_of upd_same) .nil) (by decide +kernel) (by decide) (q' _ (x'.trans xt))
    · refine ⟨[(0, 0)], by rw [t1]; rfl, ok1.inn, by decide, table_ok ok1, fun v H' x' dv => ⟨sz_of (by simp), fun t nt => ⟨sz_of (by simp), fun t2 nt2 => ?_⟩⟩⟩
      have xt := Ex.new (o := .tup [V.int 0, .int 0]) nt
      have xt2 := Ex.new (o := .tup [V.ref t]) nt2
      exact ne_fin (d := rowsD [(0, 0)]) (n := 2) (dp_same (xt.trans xt2) _ _ dv) (.tup (st_of upd_same) (.cons (.tup (st_of (xt2 _ _ upd_same)) (.cons (.int _) (.cons (.int _) .nil))) .nil)) (sd_rows _) (by decide) (q' _ ((x'.trans xt).trans xt2))
    try dsimp only
    refine s_seq ⟨sz_of (by simp), fun tl ntl => g_name ?_⟩
    have xl := Ex.new (o := .tup []) ntl
    have dl0 : Dp K (upd H1 tl (.tup [])) (.ref tl) (rowsD []) := .tup (st_of upd_same) .nil
    have hs1 := ex_l (x1.trans xl) hs
    generalize upd H1 tl (.tup []) = H2 at dl0 hs1
    try dsimp only
    refine s_seq (s_forR1 (n := 1 + (if (30 : Int) < ((ns.map V.int).length : Int) then (30 : Int) else ((ns.map V.int).length : Int))) (ea_cons (ev_op ev_c (ev_min2 (ev_len (ev_var rfl) hs1) ev_c) rv_add) ea_nil) ⟨hmn.1, by omega⟩
      (fun i σ' H' => ∃ y2 y3 y4 y5 y6 lv os, σ' = [some (.ref a), some lv, y2, y3, y4, y5, y6] ∧ SqL K H' a (ns.map V.int) ∧ Dp K H' lv (rowsD os) ∧ RsOk os) (fun H3 x3 => ⟨_, _, _, _, _, .ref tl, [], rfl, ex_l x3 hs1, dp_same x3 _ _ dl0, ok0⟩) (fun i σ' H0 hi p => ?_) (fun σ' H' p => ?_))
    · obtain ⟨y2, y3, y4, y5, y6, lv, os, rfl, hA, dl, oko⟩ := p
      have hi2 : i ≤ 1000 := by omega
      refine s_seq ⟨.ref a, rfl, .int (i : Int), rfl, a, ns, i, rfl, hA, hi2, fun b H1 nb x1 hB1 => ?_⟩
      refine g_name (s_seq ⟨.ref b, rfl, .ref b, rfl, b, rfl, hB1, fun lk ks H2 f2 ky k64 kup => ⟨b, lk, ks, rfl, f2.bag, ky, fun tb rs H3 f3 tp rk rw' rl rup => g_name ?_⟩⟩)
      have f13 := f2.trans f3
      have xG : Ex H0 H3 := fun c o h => f13.at (x1 c o h) (ne_of_none h nb)
      have ok : RsOk rs := ⟨rup kup, fun r m => by
        have h1 := ky.bd _ (rk r m)
        have h2 := rw' r m
        exact ⟨h1.1, h1.2, h2.1, h2.2⟩, by omega⟩
      try dsimp only
      refine seq_mid (fun σ' G => ∃ tv rs, σ' = [some (.ref a), some lv, some (.int (i : Int)), some (.ref b), some tv, y5, y6] ∧ Ex H0 G ∧ Dp K G tv (rowsD rs) ∧ RsOk rs) (fun go => ?_) (fun σ' G pm => ?_)
      · refine s_seq (take_of (b := b) (m := 9) f3.bag (ea_cons (ev_var rfl) (ea_cons ev_c ea_nil)) (by decide) (by decide) fun r G1 f4 r0 r1 => ⟨rfl, _, rfl, ite2 (fun z => ?_) fun z => s_next ?_⟩)
        · dsimp only [tCB, tCons]
          refine ⟨100, rfl, by omega, by omega, fun D hD => ?_⟩
          have g1 := f4.bag
          have hk10 : ∀ j : Nat, j < 100 → nines[j]? = some ((10 : Int) * (j : Int) + 9) := fun j hj => by
            unfold nines
            rw [List.getElem?_map, List.getElem?_range hj]
            rfl
          refine lc_range (lo := 0) (n := 100) (ColW b K (rowsUp nines) G1 D) (ColW.start g1 hD ⟨[], rfl, fun r m => (by cases m), fun _ => .nil⟩) (fun j H' hj c => ⟨rfl, iteT (B := ColW b K (rowsUp nines) G1 D (j + 1) H') ?_⟩) (fun H' c => ?_)
          · rw [if_pos rfl]
            refine ⟨.int (0 + (j : Int)), rfl, 10, _, rfl, rfl, .inl (by decide), _, _, rfl, rfl, take_of (b := b) (m := 1000) c.fr.bag (ea_cons (ev_var rfl) (ea_cons ev_c ea_nil)) (by decide) (by decide) fun r2 H2 f2 r3 r4 => ⟨sz_of (by simp), fun p hp => ?_⟩⟩
            have ej : (10 : Int) * (0 + (j : Int)) + 9 = 10 * (j : Int) + 9 := by omega
            dsimp only
            rw [ej]
            exact c.push (f2.trans (Fr.new f2.bag hp)) (dp_pair f2.bag (c.skip f2 fun _ h => h.skip).at hp) (fun _ h => h.push (hk10 j hj) ⟨r3, r4⟩) (by omega)
          · obtain ⟨vs, ds, h1, h2, h3, rs', rfl, hr', hu⟩ := c.ex
            have rl : rs'.length ≤ 100 := by
              have := dps_len h2
              rw [List.length_map] at this
              omega
            refine ⟨D, vs, rfl, sq_of h1, fun t o ht od => g_name (go _ _ ⟨.ref t, rs', rfl, ?_, .tup (PT.st ⟨o, upd_same, od⟩) (dps_same (Ex.new ht) _ _ (dps_same (hid_same b _) _ _ (dps_same (hid_same D _) _ _ h2))), ⟨hu nines_up, fun r m => ?_, rl⟩⟩)⟩
            · have f5 := f4.trans c.fr
              exact fun x o h => Ex.new ht x o (f5.at (xG x o h) (ne_of_none h nb))
            · have h5 := nines_in _ (List.mem_of_mem_take (hr' r m).1)
              exact ⟨h5.1, h5.2, (hr' r m).2⟩
        · exact go _ _ ⟨.ref tb, rs, rfl, fun c o h => f4.at (xG c o h) (ne_of_none h nb), (Fr_kt f4 f3.bag).dp 3 _ _ (nl_rowsD _) tp.dp, ok⟩
      obtain ⟨tv, rs, rfl, xG, dv, ok⟩ := pm
      try dsimp only
      refine s_seq ⟨tv, rfl, tv, rs, rfl, dv, table_ok ok, ok.inn, ok.few, fun G1 x1 => g_name ?_⟩
      try dsimp only
      have dv1 := dp_same x1 _ _ dv
      refine s_seq (s_if (b := false) (et_or (a := false) (b := false) (fun J xJ Q' q' => ?_) fun _ => fun J xJ Q' q' => ?_) (fun z => by cases z) fun _ G2 x2 => s_next ?_)
      · refine ⟨.str (txt rs), rfl, tv, rfl, tv, rs, rfl, dp_same xJ _ _ dv1, ok.inn, ok.few, fun H' x' => ⟨rfl, _, rfl, ?_⟩⟩
        rw [decide_eq_true rfl]
        exact q' H' x'
      · refine ⟨.str (txt rs), rfl, rs, rfl, ok, fun v H' x' dv' => ⟨tv, rfl, sz_of (by simp), fun t nt => ?_⟩⟩
        have xt := Ex.new (o := .tup [tv, .str "", .int 0]) nt
        exact ne_fin (d := .tuple [rowsD rs, .str "", .int 0]) (n := 3) (dp_same xt _ _ dv') (.tup (st_of upd_same) (.cons (dp_same ((xJ.trans x').trans xt) _ _ dv1) (.cons (.str _) (.cons (.int _) .nil)))) (sd3 _) (by decide) (q' _ (x'.trans xt))
      have x12 := x1.trans x2
      try dsimp only
      refine s_seq (s_if (b := false) (et_or (a := false) (b := false) (fun J xJ Q' q' => ?_) fun _ => fun J xJ Q' q' => ?_) (fun z => by cases z) fun _ G3 x3 => s_next ?_)
      · refine ⟨.str (txt rs), rfl, rs, rfl, ok.inn, ok.few, table_ok ok, fun v H5 x5 dv5 => ⟨v, rowsD rs, rfl, dv5, fun ds e => ?_, fun H6 x6 => ⟨true, by rw [table_ok ok], q' _ (x5.trans x6)⟩⟩⟩
        cases e
        have := ok.few
        rw [List.length_map]
        omega
      · refine ⟨.str (txt rs), rfl, lv, rfl, lv, os, rfl, dp_same (((xG.trans x12).trans xJ)) _ _ dl, table_ok oko, oko.inn, oko.few, fun H4 x4 => ⟨rfl, tv, rfl, lv, rfl, rowsD rs, rowsD os, dp_same ((x2.trans xJ).trans x4) _ _ dv1, dp_same ((((xG.trans x12).trans xJ)).trans x4) _ _ dl, sd_sh (sd_rows _) (by decide), sd_sh (sd_rows _) (by decide), rfl, _, rfl, ?_⟩⟩
        have e1 : (decide (V.str (txt rs) = V.str (txt os))) = PyData.eqv (rowsD rs) (rowsD os) := by
          rw [eqv_rowsD2]
          by_cases e : rs = os
          · rw [e, decide_eq_true rfl, decide_eq_true rfl]
          · rw [decide_eq_false e, decide_eq_false fun z => e (txt_inj ok.inn oko.inn (V.str.inj z))]
        rw [e1, decide_eq_true rfl]
        exact q' _ x4
      · refine ⟨tv, rfl, g_name ⟨_, _, _, _, _, tv, rs, rfl, ?_, dp_same (x12.trans x3) _ _ dv, ok⟩⟩
        exact ex_l (((xG.trans x12).trans x3)) hA
    · exact q _
end
end K42
namespace K42
open PySem L2 PyProof.Rows Tc Evl
open K42r (fileN hfs1 hfs2 hfn1 hfn2 hfs hfn hxs)
set_option maxHeartbeats 8000000 in
theorem all_mk {P : Program} {w : World} {K : PySem.W.Frag} {h : Heap} {mg : Str → Option Value} {fa : Addr} (X : K.In h) (G : h.Ns mainGlobals mg) (hfa : mg "law" = some (.ref fa)) (xFile : P.main.file = fileN) (xP : (P.main.scope.names.lookup ("super" : Str)).isSome = false) (c : SaysM hfs hfn hxs K) :
    ∃ fd : FuncData, (∀ (s : Shared) (v : Value), BindsTo s fd ⟨[v], []⟩ [("script", v)]) ∧ ∀ base : Heap, K.In base → base.Ns mainGlobals mg → FnOk P w K mg base CX0 8 fa fd ["script"] (spLaw K) := by
  obtain ⟨fd1, FD1⟩ : ∃ fd, FunD K "is_number" "is_number" (defArgs K42b.sNum) (defBody K42b.sNum) (defScope K42b.sNum) [] [] (He.ga K "is_number") fd := c.def_ 0
  have F1 := fun_of FD1
  have m1 := He.glo_ok X G (c.fact 0 (f := fun K => (He.Fa.glo "is_number").ok K) rfl)
  have b1 := F1.binds (ps := ["thing"]) fun _ _ _ _ _ _ us hl => match us, hl with | [_], _ => rfl
  obtain ⟨fd2, FD2⟩ : ∃ fd, FunD K "is_key" "is_key" (defArgs K42b.sKey) (defBody K42b.sKey) (defScope K42b.sKey) [] [] (He.ga K "is_key") fd := c.def_ 1
  have F2 := fun_of FD2
  have m2 := He.glo_ok X G (c.fact 1 (f := fun K => (He.Fa.glo "is_key").ok K) rfl)
  have b2 := F2.binds (ps := ["thing"]) fun _ _ _ _ _ _ us hl => match us, hl with | [_], _ => rfl
  obtain ⟨fd3, FD3⟩ : ∃ fd, FunD K "is_worth" "is_worth" (defArgs K42b.sWorth) (defBody K42b.sWorth) (defScope K42b.sWorth) [] [] (He.ga K "is_worth") fd := c.def_ 2
  have F3 := fun_of FD3
  have m3 := He.glo_ok X G (c.fact 2 (f := fun K => (He.Fa.glo "is_worth").ok K) rfl)
  have b3 := F3.binds (ps := ["thing"]) fun _ _ _ _ _ _ us hl => match us, hl with | [_], _ => rfl
  obtain ⟨fd4, FD4⟩ : ∃ fd, FunD K "is_row" "is_row" (defArgs K42b.sRow) (defBody K42b.sRow) (defScope K42b.sRow) [] [] (He.ga K "is_row") fd := c.def_ 3
  have F4 := fun_of FD4
  have m4 := He.glo_ok X G (c.fact 3 (f := fun K => (He.Fa.glo "is_row").ok K) rfl)
  have b4 := F4.binds (ps := ["thing"]) fun _ _ _ _ _ _ us hl => match us, hl with | [_], _ => rfl
  obtain ⟨fd5, FD5⟩ : ∃ fd, FunD K "is_rows" "is_rows" (defArgs K42b.sRows) (defBody K42b.sRows) (defScope K42b.sRows) [] [] (He.ga K "is_rows") fd := c.def_ 4
  have F5 := fun_of FD5
  have m5 := He.glo_ok X G (c.fact 4 (f := fun K => (He.Fa.glo "is_rows").ok K) rfl)
  have b5 := F5.binds (ps := ["thing", "first", "last"]) fun _ _ _ _ _ _ us hl => match us, hl with | [_, _, _], _ => rfl
  obtain ⟨fd6, FD6⟩ : ∃ fd, FunD K "is_table" "is_table" (defArgs K42b.sTable) (defBody K42b.sTable) (defScope K42b.sTable) [] [] (He.ga K "is_table") fd := c.def_ 5
  have F6 := fun_of FD6
  have m6 := He.glo_ok X G (c.fact 5 (f := fun K => (He.Fa.glo "is_table").ok K) rfl)
  have b6 := F6.binds (ps := ["thing"]) fun _ _ _ _ _ _ us hl => match us, hl with | [_], _ => rfl
  obtain ⟨fd7, FD7⟩ : ∃ fd, FunD K "listed" "listed" (defArgs sListed) (defBody sListed) (defScope sListed) [] [] (He.ga K "listed") fd := c.def_ 6
  have F7 := fun_of FD7
  have m7 := He.glo_ok X G (c.fact 6 (f := fun K => (He.Fa.glo "listed").ok K) rfl)
  have b7 := F7.binds (ps := ["words"]) fun _ _ _ _ _ _ us hl => match us, hl with | [_], _ => rfl
  obtain ⟨fd8, FD8⟩ : ∃ fd, FunD K "rows_text" "rows_text" (defArgs sRt) (defBody sRt) (defScope sRt) [] [] (He.ga K "rows_text") fd := c.def_ 7
  have F8 := fun_of FD8
  have m8 := He.glo_ok X G (c.fact 7 (f := fun K => (He.Fa.glo "rows_text").ok K) rfl)
  have b8 := F8.binds (ps := ["rows"]) fun _ _ _ _ _ _ us hl => match us, hl with | [_], _ => rfl
  obtain ⟨fd9, FD9⟩ : ∃ fd, FunD K "table_text" "table_text" (defArgs sTt) (defBody sTt) (defScope sTt) [] [] (He.ga K "table_text") fd := c.def_ 8
  have F9 := fun_of FD9
  have m9 := He.glo_ok X G (c.fact 8 (f := fun K => (He.Fa.glo "table_text").ok K) rfl)
  have b9 := F9.binds (ps := ["table"]) fun _ _ _ _ _ _ us hl => match us, hl with | [_], _ => rfl
  obtain ⟨fd10, FD10⟩ : ∃ fd, FunD K "read_number" "read_number" (defArgs sRn) (defBody sRn) (defScope sRn) [] [] (He.ga K "read_number") fd := c.def_ 9
  have F10 := fun_of FD10
  have m10 := He.glo_ok X G (c.fact 9 (f := fun K => (He.Fa.glo "read_number").ok K) rfl)
  have b10 := F10.binds (ps := ["word"]) fun _ _ _ _ _ _ us hl => match us, hl with | [_], _ => rfl
  obtain ⟨fd11, FD11⟩ : ∃ fd, FunD K "read_numbers" "read_numbers" (defArgs sRns) (defBody sRns) (defScope sRns) [] [] (He.ga K "read_numbers") fd := c.def_ 10
  have F11 := fun_of FD11
  have m11 := He.glo_ok X G (c.fact 10 (f := fun K => (He.Fa.glo "read_numbers").ok K) rfl)
  have b11 := F11.binds (ps := ["words"]) fun _ _ _ _ _ _ us hl => match us, hl with | [_], _ => rfl
  obtain ⟨fd12, FD12⟩ : ∃ fd, FunD K "read_table" "read_table" (defArgs sRdt) (defBody sRdt) (defScope sRdt) [] [] (He.ga K "read_table") fd := c.def_ 11
  have F12 := fun_of FD12
  have m12 := He.glo_ok X G (c.fact 11 (f := fun K => (He.Fa.glo "read_table").ok K) rfl)
  have b12 := F12.binds (ps := ["text"]) fun _ _ _ _ _ _ us hl => match us, hl with | [_], _ => rfl
  obtain ⟨fd13, FD13⟩ : ∃ fd, FunD K "_law_bag" "_law_bag" (defArgs sBag) (defBody sBag) (defScope sBag) [] [] (He.ga K "_law_bag") fd := c.def_ 12
  have F13 := fun_of FD13
  have m13 := He.glo_ok X G (c.fact 12 (f := fun K => (He.Fa.glo "_law_bag").ok K) rfl)
  have b13 := F13.binds (ps := ["script", "k"]) fun _ _ _ _ _ _ us hl => match us, hl with | [_, _], _ => rfl
  obtain ⟨fd14, FD14⟩ : ∃ fd, FunD K "_law_take" "_law_take" (defArgs sTake) (defBody sTake) (defScope sTake) [] [] (He.ga K "_law_take") fd := c.def_ 13
  have F14 := fun_of FD14
  have m14 := He.glo_ok X G (c.fact 13 (f := fun K => (He.Fa.glo "_law_take").ok K) rfl)
  have b14 := F14.binds (ps := ["bag", "many"]) fun _ _ _ _ _ _ us hl => match us, hl with | [_, _], _ => rfl
  obtain ⟨fd15, FD15⟩ : ∃ fd, FunD K "_law_within" "_law_within" (defArgs K42b.sWithin) (defBody K42b.sWithin) (defScope K42b.sWithin) [] [] (He.ga K "_law_within") fd := c.def_ 14
  have F15 := fun_of FD15
  have m15 := He.glo_ok X G (c.fact 14 (f := fun K => (He.Fa.glo "_law_within").ok K) rfl)
  have b15 := F15.binds (ps := ["thing", "least", "most"]) fun _ _ _ _ _ _ us hl => match us, hl with | [_, _, _], _ => rfl
  obtain ⟨fd16, FD16⟩ : ∃ fd, FunD K "_law_keys" "_law_keys" (defArgs sKeys) (defBody sKeys) (defScope sKeys) [] [] (He.ga K "_law_keys") fd := c.def_ 15
  have F16 := fun_of FD16
  have m16 := He.glo_ok X G (c.fact 15 (f := fun K => (He.Fa.glo "_law_keys").ok K) rfl)
  have b16 := F16.binds (ps := ["bag"]) fun _ _ _ _ _ _ us hl => match us, hl with | [_], _ => rfl
  obtain ⟨fd17, FD17⟩ : ∃ fd, FunD K "_law_table" "_law_table" (defArgs sTab) (defBody sTab) (defScope sTab) [] [] (He.ga K "_law_table") fd := c.def_ 16
  have F17 := fun_of FD17
  have m17 := He.glo_ok X G (c.fact 16 (f := fun K => (He.Fa.glo "_law_table").ok K) rfl)
  have b17 := F17.binds (ps := ["bag", "keys"]) fun _ _ _ _ _ _ us hl => match us, hl with | [_, _], _ => rfl
  obtain ⟨fd18, FD18⟩ : ∃ fd, FunD K "_law_is_pair" "_law_is_pair" (defArgs K42b.sPair) (defBody K42b.sPair) (defScope K42b.sPair) [] [] (He.ga K "_law_is_pair") fd := c.def_ 17
  have F18 := fun_of FD18
  have m18 := He.glo_ok X G (c.fact 17 (f := fun K => (He.Fa.glo "_law_is_pair").ok K) rfl)
  have b18 := F18.binds (ps := ["thing"]) fun _ _ _ _ _ _ us hl => match us, hl with | [_], _ => rfl
  obtain ⟨fd19, FD19⟩ : ∃ fd, FunD K "_law_are_pairs" "_law_are_pairs" (defArgs K42b.sPairs) (defBody K42b.sPairs) (defScope K42b.sPairs) [] [] (He.ga K "_law_are_pairs") fd := c.def_ 18
  have F19 := fun_of FD19
  have m19 := He.glo_ok X G (c.fact 18 (f := fun K => (He.Fa.glo "_law_are_pairs").ok K) rfl)
  have b19 := F19.binds (ps := ["thing"]) fun _ _ _ _ _ _ us hl => match us, hl with | [_], _ => rfl
  obtain ⟨fd20, FD20⟩ : ∃ fd, FunD K "_law_is_table" "_law_is_table" (defArgs K42b.sLTable) (defBody K42b.sLTable) (defScope K42b.sLTable) [] [] (He.ga K "_law_is_table") fd := c.def_ 19
  have F20 := fun_of FD20
  have m20 := He.glo_ok X G (c.fact 19 (f := fun K => (He.Fa.glo "_law_is_table").ok K) rfl)
  have b20 := F20.binds (ps := ["thing"]) fun _ _ _ _ _ _ us hl => match us, hl with | [_], _ => rfl
  obtain ⟨fd21, FD21⟩ : ∃ fd, FunD K "_law_table_line" "_law_table_line" (defArgs sLine) (defBody sLine) (defScope sLine) [] [] (He.ga K "_law_table_line") fd := c.def_ 20
  have F21 := fun_of FD21
  have m21 := He.glo_ok X G (c.fact 20 (f := fun K => (He.Fa.glo "_law_table_line").ok K) rfl)
  have b21 := F21.binds (ps := ["table"]) fun _ _ _ _ _ _ us hl => match us, hl with | [_], _ => rfl
  obtain ⟨fd22, FD22⟩ : ∃ fd, FunD K "_law_no_text" "_law_no_text" (defArgs sNoTx) (defBody sNoTx) (defScope sNoTx) [] [] (He.ga K "_law_no_text") fd := c.def_ 21
  have F22 := fun_of FD22
  have m22 := He.glo_ok X G (c.fact 21 (f := fun K => (He.Fa.glo "_law_no_text").ok K) rfl)
  have b22 := F22.binds (ps := ["way", "text"]) fun _ _ _ _ _ _ us hl => match us, hl with | [_, _], _ => rfl
  obtain ⟨fd23, FD23⟩ : ∃ fd, FunD K "law" "law" (defArgs sLaw) (defBody sLaw) (defScope sLaw) [] [] (He.ga K "law") fd := c.def_ 22
  have F23 := fun_of FD23
  have m23 := He.glo_ok X G (c.fact 22 (f := fun K => (He.Fa.glo "law").ok K) rfl)
  have N : Names mg := ⟨He.free_ok X G (c.fact 23 (f := fun K => (He.Fa.free "isinstance").ok K) rfl), He.free_ok X G (c.fact 24 (f := fun K => (He.Fa.free "int").ok K) rfl), He.free_ok X G (c.fact 25 (f := fun K => (He.Fa.free "bool").ok K) rfl), He.free_ok X G (c.fact 26 (f := fun K => (He.Fa.free "tuple").ok K) rfl), He.free_ok X G (c.fact 27 (f := fun K => (He.Fa.free "list").ok K) rfl), He.free_ok X G (c.fact 28 (f := fun K => (He.Fa.free "str").ok K) rfl), He.free_ok X G (c.fact 29 (f := fun K => (He.Fa.free "len").ok K) rfl), He.free_ok X G (c.fact 30 (f := fun K => (He.Fa.free "set").ok K) rfl), He.free_ok X G (c.fact 31 (f := fun K => (He.Fa.free "sorted").ok K) rfl), He.free_ok X G (c.fact 32 (f := fun K => (He.Fa.free "range").ok K) rfl), He.free_ok X G (c.fact 33 (f := fun K => (He.Fa.free "abs").ok K) rfl), He.free_ok X G (c.fact 34 (f := fun K => (He.Fa.free "min").ok K) rfl), He.free_ok X G (c.fact 35 (f := fun K => (He.Fa.free "max").ok K) rfl), He.free_ok X G (c.fact 36 (f := fun K => (He.Fa.free "dict").ok K) rfl), He.free_ok X G (c.fact 37 (f := fun K => (He.Fa.free "all").ok K) rfl), He.free_ok X G (c.fact 38 (f := fun K => (He.Fa.free "ValueError").ok K) rfl), He.int_ok X G (c.fact 39 (f := fun K => (He.Fa.int "KEYS" 1000).ok K) rfl), He.int_ok X G (c.fact 40 (f := fun K => (He.Fa.int "WORTHS" 1000).ok K) rfl)⟩
  have mf := He.int_ok X G (c.fact 41 (f := fun K => (He.Fa.int "MOST_FIGURES" 12).ok K) rfl)
  have mr := He.int_ok X G (c.fact 42 (f := fun K => (He.Fa.int "MOST_ROWS" 100).ok K) rfl)
  have mE := He.glo_ok X G (c.fact 43 (f := fun K => (He.Fa.glo "NoText").ok K) rfl)
  have M : K42b.Names mg := ⟨N.isinstance, N.int, N.bool, N.tuple, N.list, N.str, N.len, N.set, N.sorted, N.range, N.abs, N.min, N.max, N.ve, N.KEYS, N.WORTHS, mr⟩
  have e := hfa.symm.trans m23
  cases e
  have bl := FunD.bindsA (ps := ["script"]) FD23 fun _ _ _ _ _ _ us hl => match us, hl with | [_], _ => rfl
  refine ⟨fd23, fun s v => bl s [v] rfl, fun base _ _ => ?_⟩
  have dNum : Own P w K mg base "is_number" ["thing"] 1 (spTold K K42b.isNum) := ⟨_, _, K42b.ok_num (k := 0) F1 M, m1, F1.kp, b1⟩
  have dKey : Own P w K mg base "is_key" ["thing"] 2 (spTold K K42b.isKey) := ⟨_, _, K42b.ok_key F2 M dNum, m2, F2.kp, b2⟩
  have dWor : Own P w K mg base "is_worth" ["thing"] 2 (spTold K K42b.isKey) := ⟨_, _, K42b.ok_worth F3 M dNum, m3, F3.kp, b3⟩
  have dRow : Own P w K mg base "is_row" ["thing"] 3 (spTold K K42b.isRow) := ⟨_, _, K42b.ok_row F4 M dKey dWor, m4, F4.kp, b4⟩
  have dRows : Own P w K mg base "is_rows" ["thing", "first", "last"] 4 (K42b.spRowsT K) := ⟨_, _, K42b.ok_rows F5 M dRow, m5, F5.kp, b5⟩
  have dI : Own P w K mg base "is_table" ["thing"] 5 (spTold K K42b.isTable) := ⟨_, _, K42b.ok_table F6 M dRows, m6, F6.kp, b6⟩
  have dL : Own P w K mg base "listed" ["words"] 1 (spListed K) := ⟨_, _, ok_listed (k := 0) F7, m7, F7.kp, b7⟩
  have dRt : Own P w K mg base "rows_text" ["rows"] 2 (spRt K) := ⟨_, _, ok_rt (k := 1) F8 dL (by decide), m8, F8.kp, b8⟩
  have dTt : Own P w K mg base "table_text" ["table"] 6 (spTt K) := ⟨_, _, ok_tt (k := 5) F9 dI (by decide) dRt (by decide), m9, F9.kp, b9⟩
  have dRn : Own P w K mg base "read_number" ["word"] 1 spRn := ⟨_, _, ok_rn (k := 0) F10 N mf, m10, F10.kp, b10⟩
  have dRns : Own P w K mg base "read_numbers" ["words"] 2 spRns := ⟨_, _, ok_rns (k := 1) F11 dRn (by decide), m11, F11.kp, b11⟩
  have dRd : Own P w K mg base "read_table" ["text"] 6 (spRdt K) := ⟨_, _, ok_rdt (k := 5) F12 N dRns (by decide) dI (by decide), m12, F12.kp, b12⟩
  have dT : Own P w K mg base "_law_take" ["bag", "many"] 1 spTake := ⟨_, _, ok_take (k := 0) F14, m14, F14.kp, b14⟩
  have dB : Own P w K mg base "_law_bag" ["script", "k"] 1 (spBag K) := ⟨_, _, ok_bag (k := 0) F13 N, m13, F13.kp, b13⟩
  have dKs : Own P w K mg base "_law_keys" ["bag"] 2 spKeysR := ⟨_, _, ok_keys F16 N dT, m16, F16.kp, b16⟩
  have dTab : Own P w K mg base "_law_table" ["bag", "keys"] 2 (spTabR K) := ⟨_, _, ok_tab F17 N dT, m17, F17.kp, b17⟩
  have dW : Own P w K mg base "_law_within" ["thing", "least", "most"] 1 (K42b.spWithin K) := ⟨_, _, K42b.ok_within (k := 0) F15 M, m15, F15.kp, b15⟩
  have dPr : Own P w K mg base "_law_is_pair" ["thing"] 2 (spTold K K42b.isRow) := ⟨_, _, K42b.ok_pair F18 M dW, m18, F18.kp, b18⟩
  have dPs : Own P w K mg base "_law_are_pairs" ["thing"] 3 (K42b.spToldS K K42b.arePairs) := ⟨_, _, K42b.ok_pairs F19 M dPr, m19, F19.kp, b19⟩
  have dIt : Own P w K mg base "_law_is_table" ["thing"] 4 (K42b.spToldS K K42b.isTable) := ⟨_, _, K42b.ok_ltable F20 M dPs, m20, F20.kp, b20⟩
  have dLi : Own P w K mg base "_law_table_line" ["table"] 1 (spRt K) := ⟨_, _, ok_line (k := 0) F21 N, m21, F21.kp, b21⟩
  have dNo : Own P w K mg base "_law_no_text" ["way", "text"] 7 (spNoTx K) := ⟨_, _, ok_noTx (k := 6) F22 mE dRd (by decide), m22, F22.kp, b22⟩
  exact ok_law (k := 7) F23 N dT (by decide) dB (by decide) dTab (by decide) dKs (by decide) dTt (by decide) dRd (by decide) dLi (by decide) dNo (by decide) dIt (by decide)
end K42
set_option maxHeartbeats 0
open PySem PySem.W PyProof.Rows
theorem PySem.Challenge.cw_tidecopy_k42_tables_as_texts_holds : PySem.Challenge.rw_tidecopy_k42_tables_as_texts.Holds := by
  w_on; o_law
  refine HandSHeadRun.head_any (r := OpenLaw.row PySem.Challenge.rw_tidecopy_k42_tables_as_texts) (q := view (OpenLaw.row PySem.Challenge.rw_tidecopy_k42_tables_as_texts).prog [70]) (H := K42r.hk) (ob := K42r.ob) (M := 20000) (loose := K42r.loose) (d := HandSHeadRun.topDef (OpenLaw.row PySem.Challenge.rw_tidecopy_k42_tables_as_texts).prog 70) (kwd := []) K42r.ob_eq
    (by kernel_rfl) (fun s => by kernel_rfl) K42r.run (by kernel_rfl) (by kernel_rfl) (by kernel_rfl) (by rfl) (by first | assumption | decide +kernel) (by decide +kernel) ⟨rfl, rfl, rfl, rfl, rfl, by decide +kernel⟩ ?hw ?hc
  case hw => w_witness2
  case hc =>
    refine L2.walk_ofE (l := PySem.Challenge.rw_tidecopy_k42_tables_as_texts) (n := 63) (k := 8) (x := "script") (CX := L2.CX0) rfl (by decide) (by kernel_rfl) ⟨rfl, by decide, by decide⟩ ?F (fun _ _ _ _ z => z)
    intro w mg fa h Y G hmg0
    obtain ⟨K, KX, c⟩ := Y
    have hmg : mg ("law" : PySem.Str) = some (.ref fa) := by
      have e : (HandSHeadRun.topDef (OpenLaw.row PySem.Challenge.rw_tidecopy_k42_tables_as_texts).prog 70).name = ("law" : PySem.Str) := by kernel_rfl
      rw [← e]
      exact hmg0
    obtain ⟨fd, hb, hF⟩ := K42.all_mk (P := (PySem.Challenge.rw_tidecopy_k42_tables_as_texts).prog) (w := w) KX G hmg rfl (by kernel_rfl) c
    exact ⟨K, fd, K42.spLaw K, KX, hb, fun H a ns hl _ hS => ⟨a, ns, rfl, hS, hl, fun _ => rfl⟩, hF⟩
