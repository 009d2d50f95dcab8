import PyProof.Rows.All
import Wide.All
import OpenK.AllK
import Wide.FinOn
import PyProof.NeKinds
import HandS.ForMost
import HandS.IsInst
import HandS.Conv
import HandS.Codes
import HandS.Evl
import HandS.Strs
import HandS.SetFor
import HandS.SortInts
import HandS.Steps
import PyProof.Rows.IntBool
import PyProof.CallStr
import PyProof.FitsInt
import PyProof.EqKinds
import HandS.Style
import HandS.TupMul
import HandS.SetBool
import HandS.DictComp
import KE.KDictPairs
import HandS.WordsDict
import HandS.Iter
import HandS.SortKw
import KE.GoesEnumKw
import HandS.More
import HandS.ExcInit
import HandS.Nested
import KE.KExcSuper
import HandS.HotCalls
import HandS.ExcField
import HandS.WordsExc
import KE.KExcIs
import HandS.FStr
import HandS.Text
import HandS.ExcInitHot
import HandS.OwnEq
import HandS.OwnIter
import HandS.Dict
import HandS.Defaults
import HandS.CallSlots
import HandS.TupAny
import HandS.Ends
import HandS.Words
import HandS.Head0
import HandS.Head1
import HandS.Head2
import HandS.HeadEnd
import HandS.HeadHook1
import HandS.HeadHook2
import HandS.Walk
import HandS.Deep
import PySem.Challenge.RW_tidecopy_k29_events_judged
set_option Elab.async false
set_option linter.all false
set_option maxRecDepth 100000
namespace Tc
open PySem L2
/-- a def of the text under its name, with its promise -/
def Own (P : Program) (w : World) (K : PySem.W.Frag) (mg : Str → Option Value) (base : Heap) (x : Str) (ps : List Str) (k : Nat) (sp : Sp) : Prop :=
  ∃ (f : Addr) (fd : FuncData), FnOk P w K mg base CX0 k f fd ps sp ∧ mg x = some (.ref f) ∧ PySem.W.keepIn K (.ref f) = true ∧ Binds K fd ps []
theorem pe_own {X : Cx} {x : Str} {ps : List Str} {k j : Nat} {sp : Sp} {e : Expr} {es : List Expr} {t : TA} {p pos : Pos} (d : Own X.prog X.w X.K X.mg X.base x ps k sp) (hr : Room j X.A) (hj : k ≤ j) (hg : Gl X x) (ha : PA X (e :: es) t)
    (he : starEach (e :: es) X.env = (false, eval e X.env) :: starEach es X.env := by rfl) (hdb : (x == ("__debug__" : Str)) = false := by decide) (hpl : (backTo pos (starEach es X.env)).any (·.1) = false := by rfl) :
    PE X (.Call (.Name x p) (e :: es) [] pos) (tCall sp [] E0 t) := by
  obtain ⟨f, fd, F, hm, hk, hb⟩ := d
  exact pe_call F (hr.mono hj) hg hm hk hb .nil pass0 ha hdb he hpl
/-! ### one object hidden: the bag of draws, which changes -/
def hid (b : Addr) (H : Hp) : Hp := fun a => if a = b then none else H a
theorem hid_same (b : Addr) (H : Hp) : Same (hid b H) H := fun a o h => by
  unfold hid at h
  split at h
  · cases h
  · exact h
theorem hid_at {b a : Addr} {H : Hp} {o : HO} (h : H a = some o) (n : a ≠ b) : hid b H a = some o := by
  unfold hid
  rw [if_neg n]
  exact h
theorem hid_self (b : Addr) (H : Hp) : hid b H b = none := by
  unfold hid
  rw [if_pos rfl]
theorem hid_upd (b : Addr) (H : Hp) (o : HO) : hid b (upd H b o) = hid b H := by
  funext a
  unfold hid
  by_cases h : a = b
  · rw [if_pos h, if_pos h]
  · rw [if_neg h, if_neg h, upd_ne h]
/-- the bag at b, and all else as it was or more -/
def Bag (H : Hp) (b : Addr) : Prop := ∃ x y : Int, H b = some (.lst [.int x, .int y]) ∧ 0 ≤ x ∧ 0 ≤ y ∧ y < 2147483648
structure Fr (b : Addr) (H H' : Hp) : Prop where
  bag : Bag H' b
  sm : Same (hid b H) (hid b H')
theorem Fr.refl {b : Addr} {H : Hp} (h : Bag H b) : Fr b H H := ⟨h, Same.refl _⟩
theorem Fr.trans {b : Addr} {H H1 H2 : Hp} (x : Fr b H H1) (y : Fr b H1 H2) : Fr b H H2 := ⟨y.bag, x.sm.trans y.sm⟩
theorem Bag.ne {b p : Addr} {H : Hp} (h : Bag H b) (n : H p = none) : p ≠ b := fun e => by
  obtain ⟨x, y, h, _⟩ := h
  rw [e, h] at n
  cases n
theorem Fr.new {b p : Addr} {H : Hp} {o : HO} (h : Bag H b) (n : H p = none) : Fr b H (upd H p o) := by
  have hp := h.ne n
  refine ⟨?_, fun a u e => ?_⟩
  · obtain ⟨x, y, h, r⟩ := h
    exact ⟨x, y, by rw [upd_ne hp.symm]; exact h, r⟩
  · have e1 := hid_same b H a u e
    have e2 : a ≠ b := fun z => by
      rw [z, hid_self] at e
      cases e
    exact hid_at (by rw [upd_ne (ne_of_none e1 n)]; exact e1) e2
/-- an object made on the way may change -/
theorem Fr.mut {b p : Addr} {H H' : Hp} {o : HO} (x : Fr b H H') (n : H p = none) (hb : p ≠ b) : Fr b H (upd H' p o) := by
  refine ⟨?_, fun a u e => ?_⟩
  · obtain ⟨x1, y, h, r⟩ := x.bag
    exact ⟨x1, y, by rw [upd_ne hb.symm]; exact h, r⟩
  · have e1 := hid_same b H a u e
    have e3 := x.sm a u e
    have e4 := hid_same b H' a u e3
    have e2 : a ≠ b := fun z => by
      rw [z, hid_self] at e
      cases e
    exact hid_at (by rw [upd_ne (ne_of_none e1 n)]; exact e4) e2
theorem Fr.at {b a : Addr} {H H' : Hp} {o : HO} (x : Fr b H H') (h : H a = some o) (n : a ≠ b) : H' a = some o := hid_same b H' a o (x.sm a o (hid_at h n))
theorem Fr.free {b p : Addr} {H H' : Hp} (x : Fr b H H') (hb : Bag H b) (h : H' p = none) : H p = none := by
  have hp : p ≠ b := x.bag.ne h
  cases e : H p with
  | none => rfl
  | some o =>
    rw [x.at e hp] at h
    cases h
/-! ### data -/
mutual
theorem dp_same {K : PySem.W.Frag} {H H' : Hp} (e : Same H H') : ∀ (d : PyData) (v : V), Dp K H v d → Dp K H' v d
  | _, _, .non => .non
  | _, _, .bl b => .bl b
  | _, _, .int i => .int i
  | _, _, .str x => .str x
  | _, _, .lst h r => .lst (Evl.ex_l e h) (dps_same e _ _ r)
  | _, _, .tup h r => .tup (Evl.ex_t e h) (dps_same e _ _ r)
theorem dps_same {K : PySem.W.Frag} {H H' : Hp} (e : Same H H') : ∀ (ds : List PyData) (vs : List V), DpAll K H vs ds → DpAll K H' vs ds
  | _, _, .nil => .nil
  | _, _, .cons h r => .cons (dp_same e _ _ h) (dps_same e _ _ r)
end
theorem dps_len {K : PySem.W.Frag} {H : Hp} : ∀ {vs : List V} {ds : List PyData}, DpAll K H vs ds → vs.length = ds.length
  | _, _, .nil => rfl
  | _, _, .cons _ r => congrArg (· + 1) (dps_len r)
theorem dps_at {K : PySem.W.Frag} {H : Hp} : ∀ {vs : List V} {ds : List PyData} {i : Nat} {v : V}, DpAll K H vs ds → vs[i]? = some v → ∃ d, ds[i]? = some d ∧ Dp K H v d
  | _, _, 0, _, .cons h r, e => ⟨_, rfl, by cases e; exact h⟩
  | _, _, i + 1, _, .cons h r, e => dps_at (i := i) r e
theorem dps_at' {K : PySem.W.Frag} {H : Hp} : ∀ {vs : List V} {ds : List PyData} {i : Nat} {d : PyData}, DpAll K H vs ds → ds[i]? = some d → ∃ v, vs[i]? = some v ∧ Dp K H v d
  | _, _, 0, _, .cons h r, e => ⟨_, rfl, by cases e; exact h⟩
  | _, _, i + 1, _, .cons h r, e => dps_at' (i := i) r e
theorem dps_app {K : PySem.W.Frag} {H : Hp} : ∀ {vs ws : List V} {ds es : List PyData}, DpAll K H vs ds → DpAll K H ws es → DpAll K H (vs ++ ws) (ds ++ es)
  | _, _, _, _, .nil, q => q
  | _, _, _, _, .cons h r, q => .cons h (dps_app r q)
theorem dps_take {K : PySem.W.Frag} {H : Hp} : ∀ {vs : List V} {ds : List PyData} (n : Nat), DpAll K H vs ds → DpAll K H (vs.take n) (ds.take n)
  | _, _, 0, _ => .nil
  | _, _, n + 1, .nil => .nil
  | _, _, n + 1, .cons h r => .cons h (dps_take n r)
theorem dps_drop {K : PySem.W.Frag} {H : Hp} : ∀ {vs : List V} {ds : List PyData} (n : Nat), DpAll K H vs ds → DpAll K H (vs.drop n) (ds.drop n)
  | _, _, 0, r => r
  | _, _, n + 1, .nil => .nil
  | _, _, n + 1, .cons h r => dps_drop n r
theorem dps_set {K : PySem.W.Frag} {H : Hp} : ∀ {vs : List V} {ds : List PyData} {v : V} {d : PyData} (n : Nat), DpAll K H vs ds → Dp K H v d → DpAll K H (vs.set n v) (ds.set n d)
  | _, _, _, _, _, .nil, _ => .nil
  | _, _, _, _, 0, .cons h r, q => .cons q r
  | _, _, _, _, n + 1, .cons h r, q => .cons h (dps_set n r q)
/-! ### kinds -/
def tyN : PyData → String
  | .none => "NoneType"
  | .bool _ => "bool"
  | .int _ => "int"
  | .str _ => "str"
  | .list _ => "list"
  | .tuple _ => "tuple"
  | .dict _ => "dict"
theorem ty_tup {K : PySem.W.Frag} {H : Hp} {a : Addr} {xs : List V} (h : SqT K H a xs) : TyX K H (.ref a) (.type "tuple") := by
  rcases h with (h | ⟨o, h⟩) | ⟨o, its, n, hk, hc, _⟩
  · exact .base (.tup h)
  · exact .fTuple h
  · exact .kTuple hk hc
theorem ty_lst {K : PySem.W.Frag} {H : Hp} {a : Addr} {xs : List V} (h : SqL K H a xs) : TyX K H (.ref a) (.type "list") := by
  rcases h with (h | ⟨o, h⟩) | ⟨o, its, n, hk, hc, _⟩
  · exact .base (.lst h)
  · exact .base (.frz h)
  · exact .kList hk hc
theorem ty_dp {K : PySem.W.Frag} {H : Hp} {v : V} {d : PyData} (h : Dp K H v d) : TyX K H v (.type (tyN d)) := by
  cases h with
  | non => exact .base .non
  | bl b => exact .base (.bl b)
  | int i => exact .base (.int i)
  | str z => exact .base (.str z)
  | lst h r => exact ty_lst h
  | tup h r => exact ty_tup h
theorem dp_nodict {K : PySem.W.Frag} {H : Hp} {v : V} {d : PyData} (h : Dp K H v d) : ∀ kv, d ≠ .dict kv := by
  cases h <;> intro kv z <;> cases z
/-- isinstance of data -/
theorem isi {K : PySem.W.Frag} {H : Hp} {v : V} {d : PyData} {c : String} {b : Bool} {Q : VK} (h : Dp K H v d) (k : kitB (tyN d) c = some b) (q : Q (.bl b) H) : rIsi K [v, .ty c] H Q :=
  ⟨v, .ty c, .type (tyN d), .type c, b, rfl, .ty c, ty_dp h, kit_ty k, q⟩
def isInt : PyData → Bool
  | .int _ => true | .bool _ => true | _ => false
def isBool : PyData → Bool
  | .bool _ => true | _ => false
theorem kit_int {d : PyData} (n : ∀ kv, d ≠ .dict kv) : kitB (tyN d) "int" = some (isInt d) := by
  cases d with
  | none => exact (by decide +kernel : kitB "NoneType" "int" = some false)
  | bool _ => exact (by decide +kernel : kitB "bool" "int" = some true)
  | int _ => exact (by decide +kernel : kitB "int" "int" = some true)
  | str _ => exact (by decide +kernel : kitB "str" "int" = some false)
  | list _ => exact (by decide +kernel : kitB "list" "int" = some false)
  | tuple _ => exact (by decide +kernel : kitB "tuple" "int" = some false)
  | dict kv => exact absurd rfl (n kv)
theorem kit_bool {d : PyData} (n : ∀ kv, d ≠ .dict kv) : kitB (tyN d) "bool" = some (isBool d) := by
  cases d with
  | none => exact (by decide +kernel : kitB "NoneType" "bool" = some false)
  | bool _ => exact (by decide +kernel : kitB "bool" "bool" = some true)
  | int _ => exact (by decide +kernel : kitB "int" "bool" = some false)
  | str _ => exact (by decide +kernel : kitB "str" "bool" = some false)
  | list _ => exact (by decide +kernel : kitB "list" "bool" = some false)
  | tuple _ => exact (by decide +kernel : kitB "tuple" "bool" = some false)
  | dict kv => exact absurd rfl (n kv)
/-! ### a list beside the empty one -/
/-! ### evaluation of tests over data -/
section
open Evl
variable {K : PySem.W.Frag} {σ : L2.St} {H : Hp} {ta tb tc : TE} {x y z v : V} {d : PyData}
theorem rc_isi {c : String} {b : Bool} (h : Dp K H v d) (k : kitB (tyN d) c = some b) : RC (rIsi K) [v, .ty c] H (.bl b) := fun H1 e _ q => isi (dp_same e _ _ h) k (q H1 (Ex.refl H1))
theorem ev_isi {c : String} {b : Bool} (ha : Ev ta σ H v) (h : Dp K H v d) (k : kitB (tyN d) c = some b) : Ev (tCB (rIsi K) (tCons ta (tCons (tC (.ty c)) tNil))) σ H (.bl b) := ev_cb (ea_cons ha (ea_cons ev_c ea_nil)) (rc_isi h k)
theorem ev_int (ha : Ev ta σ H v) (h : Dp K H v d) : Ev (tCB (rIsi K) (tCons ta (tCons (tC (.ty "int")) tNil))) σ H (.bl (isInt d)) := ev_isi ha h (kit_int (dp_nodict h))
theorem ev_bool (ha : Ev ta σ H v) (h : Dp K H v d) : Ev (tCB (rIsi K) (tCons ta (tCons (tC (.ty "bool")) tNil))) σ H (.bl (isBool d)) := ev_isi ha h (kit_bool (dp_nodict h))
theorem ev_chain {p p' : Int → Int → Bool} {i j k : Int} (ha : Ev ta σ H (.int i)) (hb : Ev tb σ H (.int j)) (hc : Ev tc σ H (.int k)) :
    Ev (tChain (rI0 fun i j => .bl (p i j)) (rI0 fun i j => .bl (p' i j)) ta tb tc) σ H (.bl (p i j && p' j k)) := fun H1 e Q q =>
  ha H1 e _ fun H2 e2 => hb H2 (e.trans e2) _ fun H3 e3 => ⟨i, j, rfl, rfl, p i j, rfl, by
    cases h : p i j with
    | true => exact hc H3 ((e.trans e2).trans e3) _ fun H4 e4 => ⟨j, k, rfl, rfl, by
        rw [h] at q
        exact q H4 ((e2.trans e3).trans e4)⟩
    | false =>
      rw [h] at q
      exact q H3 (e2.trans e3)⟩
/-- a def that answers a truth of data -/
def spTold (K : PySem.W.Frag) (f : PyData → Bool) : Sp := fun vs H Q _ => ∃ (v : V) (d : PyData), vs = [v] ∧ Dp K H v d ∧ ∀ H', Ex H H' → Q (.bl (f d)) H'
theorem spv_told {f : PyData → Bool} (h : Dp K H v d) : SpV (spTold K f) [v] H (.bl (f d)) := fun H1 e Q q E => ⟨v, d, rfl, dp_same e _ _ h, fun H' e' => q H' e'⟩
theorem ev_told {f : PyData → Bool} {E : XK} (ha : Ev ta σ H v) (h : Dp K H v d) : Ev (tCall (spTold K f) [] E (tCons ta tNil)) σ H (.bl (f d)) := ev_call (ea_cons ha ea_nil) (spv_told h)
theorem ev_ixT {p : Addr} {xs : List V} {j : Nat} (ha : Ev ta σ H (.ref p)) (h : SqT K H p xs) (hj : xs[j]? = some v) : Ev (tOp (rIxT K) ta (tC (.int (j : Int)))) σ H v := ev_op ha ev_c (rv_ixT h (atI_nat hj))
theorem ev_ix0 {p : Addr} {xs : List V} (ha : Ev ta σ H (.ref p)) (h : SqT K H p (v :: xs)) : Ev (tOp (rIxT K) ta (tC (.int 0))) σ H v := ev_ixT (j := 0) ha h rfl
theorem ev_ix1 {p : Addr} {xs : List V} (ha : Ev ta σ H (.ref p)) (h : SqT K H p (x :: v :: xs)) : Ev (tOp (rIxT K) ta (tC (.int 1))) σ H v := ev_ixT (j := 1) ha h rfl
end
end Tc
/-! sets of ints out of a list, and their sorted list, of any length -/
namespace Tc
open PySem L2 PyProof.Rows
section
variable {P : Program} {w : World} {A : Around} {E : Value → Shared → Prop} {s : Shared}
/-- the empty set as the model lays it -/
abbrev noneSet (w : World) : Obj := { cls := .type "set", dict := none, data := .set #[] 0 (.fresh 0 0 (!w.params.followText "set-order")) }
abbrev withSet (w : World) (s : Shared) : Shared := { s with heap := s.heap.push (noneSet w) }
/-- what is known behind set(..) of ints -/
def Made (w : World) (s : Shared) (ns : List Int) (s₂ : Shared) : Prop := ∃ (h' : Heap) (tk c : Nat), s₂ = { s with heap := h', toks := tk } ∧ SetR w h' s.heap.objs.size (fun j => decide (j ∈ ns)) c ∧ c ≤ ns.length ∧ ∀ b o, s.heap.get? b = some o → h'.get? b = some o
set_option maxHeartbeats 8000000 in
theorem call_set_ints {l : Addr} {items : Array Value} {ns : List Int} {Q : Value → Shared → Prop} (hh : A.handled = none) (hl : s.heap.IsList l items) (hit : IntsAre items.toList ns) (hb : ns.length + 1 < scanBound)
    (h : ∀ s₂, Made w s ns s₂ → Q (.ref s.heap.objs.size) s₂) : wpAny (model P w) A (call (.type "set") [.ref l]) Q E s := by
  have hisz : items.size = ns.length := by rw [← Array.length_toList]; exact IntsAre.length hit
  obtain ⟨⟨ocls, odict, odata, oslots⟩, hol, hcl, nl, hdl⟩ := hl
  simp only at hcl hdl
  subst hcl; subst hdl
  have lS : l < s.heap.objs.size := Heap.lt_size hol
  have hS : (withSet w s).heap.get? s.heap.objs.size = some (noneSet w) := Heap.get?_push_size _ rfl
  have hT : (withSet w s).TypeIs (.ref s.heap.objs.size) "set" := ⟨_, hS, rfl⟩
  have hol' := Heap.get?_push_of_some (noneSet w) hol
  have hl1 : (withSet w s).heap.IsList l items := ⟨_, hol', rfl, nl, rfl⟩
  obtain ⟨c0, tl0, p1⟩ := F.called_set.mro
  have p2 := F.called_set.made
  have p3 := F.called_set.sub
  have p4 := F.called_set.notType
  have p5 := F.called_set.canCreate
  have p6 := F.typeCall_set_1 (.ref l)
  have p7 := F.called_set.init.lookup
  have p8 := F.called_set.init.bind (.ref s.heap.objs.size)
  refine wpAny_call (codeAny_of_tree (show wpAny _ _ (callAny (.type "set") _) _ _ _ from wpAny_pure ⟨Code.quiet_builtin _ (by decide +kernel), codeAny_builtin F.entry_type_call ?_⟩))
  rw [Around.under_plain (weight_type_call_type "set" [.ref l] []) rfl]
  repeat (any_goals (first | assumption | wp_step))
  refine codeAny_mono (code_set_led1 (.ref l) (E := E) (Q₁ := fun obj s₁ => obj = .ref s.heap.objs.size ∧ s₁ = withSet w s) ⟨rfl, rfl⟩) fun r s₁ hr => ?_
  rcases r with e | fl
  · exact hr
  cases fl with
  | ret obj =>
    obtain ⟨rfl, rfl⟩ := hr
    repeat (any_goals (first | assumption | wp_step))
    refine codeAny_mono (codeAny_call_builtin (R := wants (fun r s₂ => r = .none ∧ Made w s ns s₂) E) F.called_set.init.plain F.entry_set_init (check_set_init_1 hT ?_)) fun r₂ s₂ hr₂ => ?_
    · have q1 := F.sub_list_set
      have q2 := F.sub_list_frozenset
      have q3 : (Value.type "list" == Value.type "dict") = false := by decide
      unfold Builtin.«set.__init__» noKeywords Builtin.Frozenset.updateFrom
      generalize hPI : pyIter = PI
      wp_walk
      subst hPI
      refine wpAny_pyIter_list hl1 (wpAny_bind (wpAny_runValue ?_))
      have z1 : (withSet w s).heap.objs.size = s.heap.objs.size + 1 := Heap.size_push ..
      have n1 : l ≠ (withSet w s).heap.objs.size := by
        rw [z1]
        exact Nat.ne_of_lt (Nat.lt_succ_of_lt lS)
      have n2 : s.heap.objs.size ∉ [(withSet w s).heap.objs.size, l] := by
        rw [z1]
        intro m
        simp only [List.mem_cons, List.not_mem_nil, or_false] at m
        rcases m with m | m
        · exact absurd m (Nat.ne_of_lt (Nat.lt_succ_self _))
        · exact absurd m (Nat.ne_of_gt lS)
      have each : ∀ (i : Nat) (v : Value), items[i]? = some v → ∃ (k : Int) (tok : Tok), ns[i]? = some k ∧ v = .int k tok := fun i v at_ => by
        have lt : i < ns.length := hisz ▸ (Array.getElem?_eq_some_iff.mp at_).1
        obtain ⟨tok, rfl⟩ := IntsAre.int_at hit i v (Array.getElem?_toList ▸ at_)
        exact ⟨ns[i], tok, List.getElem?_eq_getElem lt, by simp [lt]⟩
      refine set_update_ints ((Walks.list (by simp [hh]) _ l n1 items).toS) s.heap.objs.size n2 ns hisz hb each (items.size - 0) 0 _ (by omega) (Nat.zero_le _)
        ⟨⟨_, Heap.get?_push_size _ rfl, rfl, rfl⟩, hl1.push _⟩ ⟨0, Nat.le_refl 0, setR_new_at (Heap.get?_push_of_some _ hS)⟩ fun s' c' hm hc' hS' => ?_
      obtain ⟨h', gen', drw', tk', os1⟩ := s'
      cases (show gen' = s.gens from hm.gens)
      cases (show drw' = s.drawn from hm.drawn)
      cases (show os1 = s.os from hm.os)
      refine wpAny_pure (show wpAny _ _ (ret Value.none) _ _ _ from wpAny_pure ⟨rfl, h', tk', c', rfl, hS', by omega, fun b o e => ?_⟩)
      have b0 : b < s.heap.objs.size := Heap.lt_size e
      refine hm.heap b o (fun m => ?_) (Heap.get?_push_of_some _ (Heap.get?_push_of_some _ e))
      simp only [List.mem_cons, List.not_mem_nil, or_false] at m
      rcases m with m | m
      · exact absurd m (Nat.ne_of_lt b0)
      · exact absurd (m.trans z1) (Nat.ne_of_lt (Nat.lt_succ_of_lt b0))
    · rcases r₂ with e | f2
      · exact hr₂
      cases f2 with
      | ret r =>
        obtain ⟨rfl, m⟩ := hr₂
        repeat (any_goals (first | assumption | wp_step))
        exact h _ m
      | _ => exact hr₂.elim
  | _ => exact hr.elim
end
/-! ### the rules -/
section
variable {X : Cx}
/-- set(xs), xs a list of ints -/
def rSetL (K : PySem.W.Frag) (w : World) : List V → Hp → VK → Prop := fun xs H Q => ∃ (l : Addr) (ns : List Int), xs = [V.ref l] ∧ SqL K H l (ns.map V.int) ∧ ns.length ≤ 4000 ∧
  ∀ (p : Addr) (c : Nat), H p = none → c ≤ ns.length → Q (.ref p) (upd H p (SetO w p (fun j => decide (j ∈ ns)) c))
theorem cr_setL (hc : X.calm = true) : CallR X (.type "set") (rSetL X.K X.w) := by
  intro pins s σ H vs us Q I r ⟨l, ns, e0, hs, hz, q⟩
  subst e0
  rw [Vals.ref1 r]
  have ⟨its, rv, hl, _⟩ := I.list hs
  refine call_set_ints (ns := ns) (I.ok.hd hc) hl.isList rv.ints (by unfold scanBound; omega) fun s₂ m => ?_
  obtain ⟨h', tk, c, rfl, R, hc', k⟩ := m
  exact ⟨.ref _, upd H s.heap.objs.size (SetO X.w s.heap.objs.size (fun j => decide (j ∈ ns)) c), I.laid (t' := tk) k (Nat.le_refl _) (setO_new R), rfl, q _ c (I.hok.fresh (Nat.le_refl _)) hc'⟩
end
end Tc
/-! the sorted list of a set of ints, of any length -/
namespace Tc
open PySem L2 PyProof.Rows
section
variable {P : Program} {w : World} {A : Around} {E : Value → Shared → Prop} {s : Shared} {a : Addr}
set_option maxHeartbeats 9000000 in
/-- sorted(a set of ints): the road of the library's rule for fewer than 64 of them, with its sort of ints of any number -/
theorem sorted_any {S : Int → Bool} {n : Nat} {Q : Value → Shared → Prop} (R : SetR w s.heap a S n) (free : A.handled = none)
    (fin : ∀ s' p (out : List Value) (c : Nat) (ns : List Int), (∀ b o, s.heap.get? b = some o → s'.heap.get? b = some o) → s'.gens = s.gens → s'.os = s.os → s.heap.objs.size ≤ p →
      s'.heap.get? p = some (seqObj "list" out.toArray c) → IntsAre out ns → ns.Pairwise (· < ·) → (∀ k, k ∈ ns ↔ S k = true) → ns.length = n → ns.length ≤ sizeLine → Q (.ref p) s') : wpAny (model P w) A (call (.builtin "sorted") [.ref a]) Q E s := by
  obtain ⟨ob, ents, _, _, at1, exact1, dat, isI, once, mem, room, fits, count, ring, laid⟩ := R
  have many : ∀ {l : List Value}, l.Perm (ents.toList.map (·.2)) → l.length = n := fun pm => (pm.length_eq.trans (by simp)).trans count
  have size : n ≤ sizeLine := count ▸ fits_of_scanBound room
  refine Calls.call_function_entry kind_sorted plain_sorted entry_sorted (args_sorted1 _) (show wpAny _ _ (Builtin.«sorted» _) _ _ _ from ?_)
  refine wpAny_bind (m := checkCount "sorted" 1 1 _) (wpAny_pure (wpAny_bind (collect_set (A := A.in1) free ⟨ob, at1, exact1.1, dat⟩ fits room ring laid fun t vs keep old gens os pm => ?_)))
  /- the items, as ints -/
  have are : IntsAre vs (vs.map Builtin.Re.reRawOf) := ints_of vs fun v m => by
    have ⟨x, mx, ex⟩ := List.mem_map.mp (pm.mem_iff.mp m)
    have ⟨i, tok, hx, _⟩ := isI x mx
    exact ⟨i, tok, ex ▸ hx⟩
  have these : (vs.map Builtin.Re.reRawOf).Perm (ents.toList.map keyOf) := (pm.map Builtin.Re.reRawOf).trans (by rw [List.map_map]; exact .refl _)
  refine wpAny_bind (wpAny_newList ?_ ((many pm).symm ▸ size))
  generalize hL : t.heap.push (seqObj "list" vs.toArray 0) = L
  have new : L.get? t.heap.objs.size = some (seqObj "list" vs.toArray 0) := hL ▸ Heap.get?_push_size _ rfl
  refine wpAny_bind (wpAny_holding (wpAny_call_entry slot_list_sort ⟨_, new, rfl⟩ entry_list_sort (SrtO.list_sort_ord SrtO.swo_int new ((many pm).symm ▸ size) (fun lt => SrtO.ints_sortable are lt) fun out o1 o2 => ⟨_, rfl, ?_⟩) (args_list_sort _)))
  obtain ⟨r1, r2, r3⟩ := SrtO.ints_out are o1 o2
  have ⟨c, hc⟩ := sortedHeap_at (vs := vs) (out := out.toArray) new
  have all := r2.trans these
  have len := all.length_eq.trans ((List.length_map _).trans (Array.length_toList.trans count))
  refine wpAny_pure ⟨_, rfl, fin _ t.heap.objs.size out c _ (fun b u e => ?_) gens os old hc r1 (L2.lt_of_le_nodup _ r3 (all.nodup_iff.mpr once)) (fun k => all.mem_iff.trans (mem k).symm) len (len.symm ▸ size)⟩
  have lt := Heap.lt_size (keep b u e)
  show (sortedHeap L t.heap.objs.size vs out.toArray).get? b = some u
  rw [sortedHeap_old (Nat.ne_of_lt lt) (hL ▸ size_push' t.heap _ ▸ Nat.lt_succ_of_lt lt), ← hL]
  exact Heap.get?_push_of_some _ (keep b u e)
end
section
variable {X : Cx}
/-- sorted(s), s a set of ints: a new list, rising, of just its members -/
def rSortedSetA (w : World) : List V → Hp → VK → Prop := fun vs H Q => ∃ (a : Addr) (S : Int → Bool) (n : Nat), vs = [V.ref a] ∧ H a = some (SetO w a S n) ∧ ∀ (ms : List Int) (p : Addr), ms.Pairwise (· < ·) → (∀ k : Int, k ∈ ms ↔ S k = true) → ms.length = n → H p = none → Q (.ref p) (upd H p (.lst (ms.map V.int)))
theorem cr_sortedSetA (hc : X.calm = true) : CallR X (.builtin "sorted") (rSortedSetA X.w) := by
  intro pins s0 σ H vs us Q I r hyp
  obtain ⟨a, S, n, rfl, ha, q⟩ := hyp
  rw [Vals.ref1 r]
  refine sorted_any (setO_get I ha) (I.ok.hd hc) fun t p out c ms keep gens os far at2 are rise mem cnt size => ?_
  have none0 := I.hok.fresh far
  have ok : ObjOk X.prog X.w (upd H p (.lst (ms.map V.int))) t.heap p (.lst (ms.map V.int)) := ⟨(List.length_map (f := V.int)).symm ▸ size, out, c, vals_of_ints are, at2⟩
  have inv := I.call (g' := t.gens) (d' := t.drawn) (t' := t.toks) (ch := []) (Un.laid keep far none0) (I.hok.laid keep far ok) (gens ▸ I.bare) (fun _ z => nomatch z)
  have same : t = { s0 with heap := t.heap, gens := t.gens, drawn := t.drawn, toks := t.toks } := by
    obtain ⟨t1, t2, t3, t4, t5⟩ := t
    cases os
    rfl
  exact same ▸ ⟨.ref p, _, inv, rfl, q ms p rise mem cnt none0⟩
end
end Tc
namespace Tc
open PySem L2 Evl
section
variable {K : PySem.W.Frag} {σ : L2.St} {H : Hp} {ta tb tc te : TE} {x y z v : V} {d : PyData}
theorem s_next {D : Ends} {σ : L2.St} {H : Hp} (h : D.nx σ H) : tNext D σ H := h
theorem s_seq {D : Ends} {σ : L2.St} {H : Hp} {t u : TS} (h : t { D with nx := u D } σ H) : tSeq t u D σ H := h
theorem ev_l0 {p : Addr} {xs : List V} (ha : Ev ta σ H (.ref p)) (h : SqL K H p (v :: xs)) : Ev (tOp (rIxL K) ta (tC (.int 0))) σ H v := ev_op ha ev_c (rv_ixL h (atI_nat (j := 0) rfl))
theorem ev_l1 {p : Addr} {xs : List V} (ha : Ev ta σ H (.ref p)) (h : SqL K H p (x :: v :: xs)) : Ev (tOp (rIxL K) ta (tC (.int 1))) σ H v := ev_op ha ev_c (rv_ixL h (atI_nat (j := 1) rfl))
theorem ex_hid {b : Addr} {H H1 : Hp} (e : Ex H H1) : Same (hid b H) (hid b H1) := fun a u h => by
  have n : a ≠ b := fun z => by
    rw [z, hid_self] at h
    cases h
  exact hid_at (e a u (hid_same b H a u h)) n
theorem Fr.ex {b : Addr} {H H1 : Hp} (h : Bag H b) (e : Ex H H1) : Fr b H H1 := by
  obtain ⟨x, y, hb, r⟩ := h
  exact ⟨⟨x, y, e b _ hb, r⟩, ex_hid e⟩
theorem Fr.put {b : Addr} {H H1 : Hp} {x y : Int} (e : Ex H H1) (hx : 0 ≤ x) (hy : 0 ≤ y) (hz : y < 2147483648) : Fr b H (upd H1 b (.lst [.int x, .int y])) := by
  refine ⟨⟨x, y, upd_same, hx, hy, hz⟩, ?_⟩
  rw [hid_upd]
  exact ex_hid e
theorem rv_mod {i j : Int} (h : 0 < j) : RV (rI (fun _ j => 0 < j) fun i j => .int (i % j)) (.int i) (.int j) H (.int (i % j)) := fun H1 _ _ q => ⟨i, j, rfl, rfl, h, q H1 (Ex.refl H1)⟩
theorem rv_fdiv {i j : Int} (h : 0 < j) (h2 : j < 1073741824) : RV (rI CDiv fun i j => .int (i / j)) (.int i) (.int j) H (.int (i / j)) := fun H1 _ _ q => ⟨i, j, rfl, rfl, ⟨h, h2⟩, q H1 (Ex.refl H1)⟩
theorem rv_mul {i j : Int} (h : CMul i j) : RV (rI CMul fun i j => .int (i * j)) (.int i) (.int j) H (.int (i * j)) := fun H1 _ _ q => ⟨i, j, rfl, rfl, h, q H1 (Ex.refl H1)⟩
theorem rv_pow {i j : Int} (h : CPow i j) : RV (rI CPow fun i j => .int (i ^ j.toNat)) (.int i) (.int j) H (.int (i ^ j.toNat)) := fun H1 _ _ q => ⟨i, j, rfl, rfl, h, q H1 (Ex.refl H1)⟩
theorem rv_add {i j : Int} : RV (rI0 fun i j => .int (i + j)) (.int i) (.int j) H (.int (i + j)) := rv_I0
theorem rv_sub {i j : Int} : RV (rI0 fun i j => .int (i - j)) (.int i) (.int j) H (.int (i - j)) := rv_I0
theorem ev_abs {i : Int} (ha : Ev ta σ H (.int i)) : Ev (tCB (fun xs H Q => ∃ i, xs = [.int i] ∧ Q (.int (if i < 0 then -i else i)) H) (tCons ta tNil)) σ H (.int (if i < 0 then -i else i)) :=
  ev_cb (ea_cons ha ea_nil) fun H1 _ _ q => ⟨i, rfl, q H1 (Ex.refl H1)⟩
theorem ev_lx {p : Addr} {xs : List V} {j : Nat} (ha : Ev ta σ H (.ref p)) (hb : Ev tb σ H (.int (j : Int))) (h : SqL K H p xs) (hj : xs[j]? = some v) : Ev (tOp (rIxL K) ta tb) σ H v := ev_op ha hb (rv_ixL h (atI_nat hj))
/-- a new bag -/
def spBag (K : PySem.W.Frag) : Sp := fun vs H Q _ => ∃ (a : Addr) (ns : List Int) (k : Nat), vs = [.ref a, .int (k : Int)] ∧ SqL K H a (ns.map V.int) ∧ k ≤ 1000 ∧ ∀ b H', H b = none → Ex H H' → Bag H' b → Q (.ref b) H'
/-- a draw below m -/
def spTake : Sp := fun vs H Q _ => ∃ (b : Addr) (m : Int), vs = [.ref b, .int m] ∧ Bag H b ∧ 0 < m ∧ m < 1073741824 ∧ ∀ r H', Fr b H H' → 0 ≤ r → r < m → Q (.int r) H'
end
end Tc
namespace Tc
open PySem L2 Evl
section
variable {K : PySem.W.Frag} {σ : L2.St} {H : Hp} {ta tb tc te : TE} {t : TT} {x y z v : V} {d : PyData}
theorem et_yes : EvT tYes σ H true := fun H1 _ _ q => q H1 (Ex.refl H1)
theorem given_all (n : Nat) (u : Nat → V) : given n (fun _ => true) u = (List.range n).map u := by
  unfold given
  rw [List.filter_eq_self.mpr fun _ _ => rfl]
/-- two rising lists of the same members are one -/
theorem rising_one : ∀ (a b : List Int), a.Pairwise (· < ·) → b.Pairwise (· < ·) → (∀ k, k ∈ a ↔ k ∈ b) → a = b
  | [], [], _, _, _ => rfl
  | [], y :: b, _, _, h => absurd ((h y).mpr List.mem_cons_self) (by simp)
  | x :: a, [], _, _, h => absurd ((h x).mp List.mem_cons_self) (by simp)
  | x :: a, y :: b, ha, hb, h => by
    obtain ⟨a1, a2⟩ := List.pairwise_cons.mp ha
    obtain ⟨b1, b2⟩ := List.pairwise_cons.mp hb
    have e : x = y := by
      rcases List.mem_cons.mp ((h x).mp List.mem_cons_self) with e | m
      · exact e
      · rcases List.mem_cons.mp ((h y).mpr List.mem_cons_self) with e | m2
        · exact e.symm
        · have p1 := b1 x m
          have p2 := a1 y m2
          omega
    subst e
    refine congrArg (x :: ·) (rising_one a b a2 b2 fun k => ⟨fun m => ?_, fun m => ?_⟩)
    · rcases List.mem_cons.mp ((h k).mp (List.mem_cons_of_mem _ m)) with e | m2
      · have := a1 k m
        omega
      · exact m2
    · rcases List.mem_cons.mp ((h k).mpr (List.mem_cons_of_mem _ m)) with e | m2
      · have := b1 k m
        omega
      · exact m2
/-- sorted(set(xs)) of ints -/
theorem el_sortset {w : World} {ns ms : List Int} (ha : EvL ta σ H (ns.map V.int)) (hl : ns.length ≤ 4000) (hm : ∀ l : List Int, l.Pairwise (· < ·) → (∀ k, k ∈ l ↔ k ∈ ns) → l = ms) :
    EvL (tCB (rSortedSetA w) (tCons (tCB (rSetL K w) (tCons ta tNil)) tNil)) σ H (ms.map V.int) := fun H1 e Q q =>
  ha H1 e _ fun p H2 hp e2 h2 => ⟨p, ns, rfl, sq_of h2, hl, fun s c hs hc => ⟨s, _, c, rfl, upd_same, fun l r hp1 hm1 hn hr => by
    have e3 := hm l hp1 fun k => by rw [hm1 k, decide_eq_true_eq]
    subst e3
    exact q r _ (fresh_back (e2.trans (Ex.new hs)) hr) ((e2.trans (Ex.new hs)).trans (Ex.new hr)) upd_same⟩⟩
end
end Tc
/-! data made beside a bag of draws -/
namespace Tc
open PySem L2 Evl
/-- sizes of data: c counts how often it was changed, n how deep it is -/
def gd (c : Nat) : Nat → PyData → Bool
  | _, .none => true
  | _, .bool _ => true
  | _, .int i => decide (i.natAbs ≤ 10 ^ 31 + 1000 * c)
  | _, .str z => decide (z.length ≤ 100 * 3 ^ c)
  | n + 1, .list ds => decide (ds.length ≤ 1100 + c) && ds.all (gd c n)
  | n + 1, .tuple ds => decide (ds.length ≤ 1100 + c) && ds.all (gd c n)
  | _, _ => false
section
variable {b : Addr} {K : PySem.W.Frag} {σ : L2.St} {H : Hp} {ta tb tc te : TE} {t : TT} {x y z v : V} {d : PyData}
theorem dpt_new {p : Addr} {vs : List V} {ds : List PyData} (hb : Bag H b) (hp : H p = none) (h : DpAll K (hid b H) vs ds) : Dp K (hid b (upd H p (.tup vs))) (.ref p) (.tuple ds) :=
  .tup (st_of (hid_at upd_same (hb.ne hp))) (dps_same (Fr.new hb hp).sm _ _ h)
theorem fr_back {b p : Addr} {H H1 : Hp} (e : Fr b H H1) (hp : H1 p = none) : H p = none ∨ p = b := by
  by_cases h : p = b
  · exact .inr h
  · cases e1 : H p with
    | none => exact .inl rfl
    | some o =>
      rw [e.at e1 h] at hp
      cases hp
theorem fr_back' {b p : Addr} {H H1 : Hp} (e : Fr b H H1) (hp : H1 p = none) : H p = none := by
  rcases fr_back e hp with h | h
  · exact h
  · exact absurd h (e.bag.ne hp)
end
end Tc
namespace Tc
open PySem L2 Evl
section
variable {b : Addr} {K : PySem.W.Frag} {σ : L2.St} {H : Hp} {ta tb tc te : TE} {t : TT} {x y z v : V} {d : PyData} {Q : VK} {E : XK}
theorem take_of {ta : TA} {m : Int} (hB : Bag H b) (ha : EvA ta σ H [.ref b, .int m]) (h0 : 0 < m) (h1 : m < 1073741824) (q : ∀ r H', Fr b H H' → 0 ≤ r → r < m → Q (.int r) H') : tCall spTake [] E ta σ H Q :=
  ha H (Ex.refl H) _ fun H1 e => ⟨b, m, rfl, (Fr.ex hB e).bag, h0, h1, fun r H' fr => q r H' ((Fr.ex hB e).trans fr)⟩
theorem el_cat {xs ys : List V} (ha : EvL ta σ H xs) (hb : EvL tb σ H ys) (hl : xs.length + ys.length ≤ 100000) : EvL (tOp rCat ta tb) σ H (xs ++ ys) := fun H1 e Q q =>
  ha H1 e _ fun p H2 hp e2 h2 => hb H2 (e.trans e2) _ fun r H3 hr e3 h3 => ⟨p, r, xs, ys, rfl, rfl, e3 p _ h2, h3, sz_of hl, fun s hs => q s _ (fresh_back (e2.trans e3) hs) ((e2.trans e3).trans (Ex.new hs)) upd_same⟩
theorem el_is {xs ys : List V} (h : EvL te σ H xs) (e : xs = ys) : EvL te σ H ys := e ▸ h
/-- an item of a new list by a draw -/
theorem item_new {xs : List V} {tb : TE} (ha : EvL ta σ H xs) (hB : Bag H b) (h : ∀ H1, Fr b H H1 → ∀ Q : VK, (∀ r H', Fr b H1 H' → 0 ≤ r → r < (xs.length : Int) → Q (.int r) H') → tb σ H1 Q) (q : ∀ v H', Fr b H H' → v ∈ xs → Q v H') : tOp (rIxL K) ta tb σ H Q :=
  ha H (Ex.refl H) _ fun p H1 hp e h1 => h H1 (Fr.ex hB e) _ fun r H2 f2 h0 h3 => by
    obtain ⟨n, rfl⟩ : ∃ n : Nat, r = (n : Int) := ⟨r.toNat, by omega⟩
    have hlt : n < xs.length := by omega
    have hpb : p ≠ b := hB.ne hp
    exact ⟨p, xs, n, xs[n], rfl, rfl, sq_of (f2.at h1 hpb), atI_nat (List.getElem?_eq_getElem hlt), q _ _ ((Fr.ex hB e).trans f2) (List.getElem_mem hlt)⟩
end
end Tc
namespace Tc
open PySem L2 Evl
theorem same_hid {D : Addr} {H H' : Hp} (e : Same H H') : Same (hid D H) (hid D H') := fun a u h => by
  have n : a ≠ D := fun z => by
    rw [z, hid_self] at h
    cases h
  exact hid_at (e a u (hid_same D H a u h)) n
theorem hid_upd2 {b D : Addr} (H : Hp) (o : HO) (n : D ≠ b) : hid D (hid b (upd H D o)) = hid D (hid b H) := by
  funext a
  unfold hid
  by_cases h : a = D
  · rw [if_pos h, if_pos h]
  · rw [if_neg h, if_neg h]
    by_cases h2 : a = b
    · rw [if_pos h2, if_pos h2]
    · rw [if_neg h2, if_neg h2, upd_ne h]
/-- a list at D that collects data, beside a bag at b -/
structure Col (b : Addr) (K : PySem.W.Frag) (g : PyData → Bool) (H : Hp) (D : Addr) (i : Nat) (H' : Hp) : Prop where
  fr : Fr b H H'
  new : H D = none
  ne : D ≠ b
  ex : ∃ (vs : List V) (ds : List PyData), H' D = some (.lst vs) ∧ DpAll K (hid D (hid b H')) vs ds ∧ vs.length ≤ i ∧ ∀ d ∈ ds, g d = true
section
variable {b D : Addr} {K : PySem.W.Frag} {g : PyData → Bool} {H H' H4 : Hp} {i : Nat} {y : V} {d : PyData}
theorem Col.start (hB : Bag H b) (hD : H D = none) : Col b K g H D 0 (upd H D (.lst [])) := ⟨Fr.new hB hD, hD, hB.ne hD, [], [], upd_same, .nil, Nat.le_refl _, fun d m => by simp at m⟩
theorem Col.skip (c : Col b K g H D i H') (f : Fr b H' H4) : Col b K g H D (i + 1) H4 := by
  obtain ⟨vs, ds, h1, h2, h3, h4⟩ := c.ex
  exact ⟨c.fr.trans f, c.new, c.ne, vs, ds, f.at h1 c.ne, dps_same (same_hid f.sm) _ _ h2, by omega, h4⟩
theorem Col.push (c : Col b K g H D i H') (f : Fr b H' H4) (hy : Dp K (hid D (hid b H4)) y d) (hg : g d = true) (hi : i < 10000) : ∃ acc, H4 D = some (.lst acc) ∧ acc.length < sizeLine ∧ Col b K g H D (i + 1) (upd H4 D (.lst (acc ++ [y]))) := by
  obtain ⟨vs, ds, h1, h2, h3, h4⟩ := c.ex
  refine ⟨vs, f.at h1 c.ne, sz_lt (by omega), Fr.mut (c.fr.trans f) c.new c.ne, c.new, c.ne, vs ++ [y], ds ++ [d], upd_same, ?_, by simp; omega, fun e m => ?_⟩
  · rw [hid_upd2 _ _ c.ne]
    exact dps_app (dps_same (same_hid f.sm) _ _ h2) (.cons hy .nil)
  · rcases List.mem_append.mp m with m | m
    · exact h4 e m
    · rw [List.mem_singleton.mp m]
      exact hg
/-- a pair of ints, new -/
theorem dp_pair {p : Addr} {k r : Int} (hB : Bag H b) (hD : H D ≠ none) (hp : H p = none) : Dp K (hid D (hid b (upd H p (.tup [.int k, .int r])))) (.ref p) (.tuple [.int k, .int r]) :=
  .tup (st_of (hid_at (hid_at upd_same (hB.ne hp)) fun z => hD (z ▸ hp))) (.cons (.int k) (.cons (.int r) .nil))
theorem Col.at (c : Col b K g H D i H') : H' D ≠ none := by
  obtain ⟨vs, ds, h1, _⟩ := c.ex
  rw [h1]
  exact fun z => nomatch z
/-- tuple(..) of what was collected -/
theorem Col.tup {te : TE} {σ : L2.St} {Q : VK} {i : Nat} (h : ∀ Q' : VK, (∀ p H', Col b K g H p i H' → Q' (.ref p) H') → te σ H Q') (hz : i ≤ 1100)
    (q : ∀ v d H', Fr b H H' → Dp K (hid b H') v d → (∃ ds : List PyData, d = .tuple ds ∧ ds.length ≤ i ∧ ∀ d ∈ ds, g d = true) → Q v H') :
    tCB (fun xs H Q => ∃ p ys, xs = [.ref p] ∧ ((SqL K H p ys ∧ ∀ l, H l = none → Q (.ref l) (upd H l (.tup ys))) ∨ (SqT K H p ys ∧ Q (.ref p) H))) (tCons te tNil) σ H Q :=
  h _ fun p H' c => by
    obtain ⟨vs, ds, h1, h2, h3, h4⟩ := c.ex
    refine ⟨p, vs, rfl, .inl ⟨sq_of h1, fun l hl => q (.ref l) (.tuple ds) _ (c.fr.trans (Fr.new c.fr.bag hl)) (dpt_new c.fr.bag hl (dps_same (hid_same p _) _ _ h2)) ⟨ds, rfl, by rw [← dps_len h2]; exact h3, h4⟩⟩⟩
end
end Tc
namespace Tc
open PySem L2 Evl
end Tc
/-! data kept apart from a set of objects (the bag, lists under work) -/
namespace Tc
open PySem L2 Evl
open Classical in
noncomputable def cut (S : Addr → Prop) (H : Hp) : Hp := fun a => if S a then none else H a
theorem cut_in {S : Addr → Prop} {H : Hp} {a : Addr} (h : S a) : cut S H a = none := by
  unfold cut
  rw [if_pos h]
theorem cut_at {S : Addr → Prop} {H : Hp} {a : Addr} {o : HO} (h : H a = some o) (n : ¬ S a) : cut S H a = some o := by
  unfold cut
  rw [if_neg n]
  exact h
theorem cut_same (S : Addr → Prop) (H : Hp) : Same (cut S H) H := fun a o h => by
  by_cases n : S a
  · rw [cut_in n] at h
    cases h
  · unfold cut at h
    rw [if_neg n] at h
    exact h
theorem cut_out {S : Addr → Prop} {H : Hp} {a : Addr} {o : HO} (h : cut S H a = some o) : ¬ S a := fun n => by
  rw [cut_in n] at h
  cases h
/-- what is kept apart is there -/
structure Sok (S : Addr → Prop) (b : Addr) (H : Hp) : Prop where
  mem : S b
  old : ∀ a, S a → H a ≠ none
section
variable {S : Addr → Prop} {b : Addr} {K : PySem.W.Frag} {σ : L2.St} {H H' : Hp} {ta tb tc te : TE} {t : TT} {x y z v : V} {d : PyData}
theorem Sok.fr (h : Sok S b H) (f : Fr b H H') : Sok S b H' := ⟨h.mem, fun a m => by
  by_cases e : a = b
  · obtain ⟨x, y, hb, _⟩ := f.bag
    rw [e, hb]
    exact fun z => nomatch z
  · cases h1 : H a with
    | none => exact absurd h1 (h.old a m)
    | some o =>
      rw [f.at h1 e]
      exact fun z => nomatch z⟩
theorem Sok.new (h : Sok S b H) {p : Addr} (hp : H p = none) : ¬ S p := fun m => h.old p m hp
theorem cut_sm (h : S b) (f : Fr b H H') : Same (cut S H) (cut S H') := fun a o e => by
  have n := cut_out e
  exact cut_at (f.at (cut_same S H a o e) fun z => n (z ▸ h)) n
/-- the objects of S may change -/
theorem cut_upd {p : Addr} {o : HO} (h : S p) : cut S (upd H p o) = cut S H := by
  funext a
  unfold cut
  by_cases m : S a
  · rw [if_pos m, if_pos m]
  · rw [if_neg m, if_neg m, upd_ne (fun z : a = p => m (z ▸ h))]
theorem cdt_new {p : Addr} {vs : List V} {ds : List PyData} (hS : Sok S b H) (hB : Bag H b) (hp : H p = none) (h : DpAll K (cut S H) vs ds) : Dp K (cut S (upd H p (.tup vs))) (.ref p) (.tuple ds) :=
  .tup (st_of (cut_at upd_same (hS.new hp))) (dps_same (cut_sm hS.mem (Fr.new hB hp)) _ _ h)
end
end Tc
namespace Tc
open PySem L2 Evl
end Tc
namespace Tc
open PySem L2 Evl
section
variable {S : Addr → Prop} {b : Addr} {K : PySem.W.Frag} {σ : L2.St} {H H' : Hp} {ta tb tc te : TE} {t : TT} {x y z v : V} {d : PyData}
/-- one more object kept apart -/
def also (S : Addr → Prop) (l : Addr) : Addr → Prop := fun a => S a ∨ a = l
theorem also_same {l : Addr} : Same (cut (also S l) H) (cut S H) := fun a o h => cut_at (cut_same _ _ _ _ h) fun m => cut_out h (.inl m)
theorem Sok.also {l : Addr} (h : Sok S b H) (hl : H l ≠ none) : Sok (also S l) b H := ⟨.inl h.mem, fun a m => by
  rcases m with m | m
  · exact h.old a m
  · rw [m]
    exact hl⟩
def SQ (K : PySem.W.Frag) (H : Hp) (a : Addr) (xs : List V) : Prop := SqL K H a xs ∨ SqT K H a xs
theorem SQ.same {a : Addr} {xs : List V} (h : SQ K H a xs) (e : Same H H') : SQ K H' a xs := by
  rcases h with h | h
  · exact .inl (ex_l e h)
  · exact .inr (ex_t e h)
end
end Tc
/-! data beside texts: ==, not in -/
namespace Tc
open PySem L2 Evl
section
variable {K : PySem.W.Frag} {σ : L2.St} {H : Hp} {ta tb tc te : TE} {x y z v : V} {d : PyData}
theorem ev_ix2 {p : Addr} {xs : List V} {x0 x1 : V} (ha : Ev ta σ H (.ref p)) (h : SqT K H p (x0 :: x1 :: v :: xs)) : Ev (tOp (rIxT K) ta (tC (.int 2))) σ H v := ev_ixT (j := 2) ha h rfl
end
end Tc
namespace Tc
open PySem L2 Evl
def rEqE (K : PySem.W.Frag) : R2 := fun x y H Q => ∃ (a b : Addr) (xs : List V), x = .ref a ∧ y = .ref b ∧ SqL K H a xs ∧ SqL K H b [] ∧ Q (.bl xs.isEmpty) H
theorem op_eqE {X : Cx} (hu : X.A.units + 64 < cLine) : OpR X (compareOp .Eq) (rEqE X.K) := by
  intro pins s σ H x y v u Q I rx ry h
  obtain ⟨a, b, xs, rfl, rfl, ha, hb, q⟩ := h
  cases xs with
  | nil => exact op_eqD hu pins s σ H _ _ v u Q I rx ry ⟨.list [], .list [], .lst ha .nil, .lst hb .nil, rfl, rfl, q⟩
  | cons z zs =>
    cases (show v = Value.ref a from rx)
    cases (show u = Value.ref b from ry)
    obtain ⟨i1, r1, l1, _⟩ := I.list ha
    obtain ⟨i2, r2, l2, _⟩ := I.list hb
    have h1 : (i1.toArray.size != i2.toArray.size) = true := by
      have e1 := r1.length
      have e2 := r2.length
      simp only [List.size_toArray]
      rw [← e1, ← e2]
      rfl
    exact SeqAt.RcAt.lists_lengths l1.isList l2.isList h1 (by omega) _ _ _ _ ⟨.bl false, H, I, rfl, q⟩
end Tc
namespace Tc
open PySem L2 Evl
/-- a list at D that collects data, one a turn, beside a bag at b, apart from S -/
structure ColE (S : Addr → Prop) (b : Addr) (K : PySem.W.Frag) (g : PyData → Bool) (H : Hp) (D : Addr) (i : Nat) (H' : Hp) : Prop where
  fr : Fr b H H'
  sok : Sok S b H
  new : H D = none
  ne : D ≠ b
  ex : ∃ (vs : List V) (ds : List PyData), H' D = some (.lst vs) ∧ DpAll K (cut (also S D) H') vs ds ∧ vs.length = i ∧ ∀ d ∈ ds, g d = true
section
variable {S : Addr → Prop} {b D : Addr} {K : PySem.W.Frag} {g : PyData → Bool} {H H' H4 : Hp} {i : Nat} {y : V} {d : PyData}
theorem ColE.start (hS : Sok S b H) (hB : Bag H b) (hD : H D = none) : ColE S b K g H D 0 (upd H D (.lst [])) := ⟨Fr.new hB hD, hS, hD, hB.ne hD, [], [], upd_same, .nil, rfl, fun d m => by simp at m⟩
theorem ColE.skip (c : ColE S b K g H D i H') (f : Fr b H' H4) : ColE S b K g H D i H4 := by
  obtain ⟨vs, ds, h1, h2, h3, h4⟩ := c.ex
  exact ⟨c.fr.trans f, c.sok, c.new, c.ne, vs, ds, f.at h1 c.ne, dps_same (cut_sm (.inl c.sok.mem) f) _ _ h2, h3, h4⟩
theorem ColE.push (c : ColE S b K g H D i H') (f : Fr b H' H4) (hy : Dp K (cut (also S D) H4) y d) (hg : g d = true) (hi : i < 10000) : ∃ acc, H4 D = some (.lst acc) ∧ acc.length < sizeLine ∧ ColE S b K g H D (i + 1) (upd H4 D (.lst (acc ++ [y]))) := by
  obtain ⟨vs, ds, h1, h2, h3, h4⟩ := c.ex
  refine ⟨vs, f.at h1 c.ne, sz_lt (by omega), Fr.mut (c.fr.trans f) c.new c.ne, c.sok, c.new, c.ne, vs ++ [y], ds ++ [d], upd_same, ?_, by simp; omega, fun e m => ?_⟩
  · rw [cut_upd (.inr rfl)]
    exact dps_app (dps_same (cut_sm (.inl c.sok.mem) f) _ _ h2) (.cons hy .nil)
  · rcases List.mem_append.mp m with m | m
    · exact h4 e m
    · rw [List.mem_singleton.mp m]
      exact hg
theorem ColE.at (c : ColE S b K g H D i H') : H' D ≠ none := by
  obtain ⟨vs, ds, h1, _⟩ := c.ex
  rw [h1]
  exact fun z => nomatch z
theorem ColE.from {H1 : Hp} (hS : Sok S b H) (f : Fr b H H1) (c : ColE S b K g H1 D i H') : ColE S b K g H D i H' := by
  obtain ⟨vs, ds, h1, h2, h3, h4⟩ := c.ex
  exact ⟨f.trans c.fr, hS, fr_back' f c.new, c.ne, vs, ds, h1, h2, h3, h4⟩
theorem ColE.sokD (c : ColE S b K g H D i H') : Sok (also S D) b H' := (c.sok.fr c.fr).also c.at
/-- a new tuple of leaves, apart from S and D -/
theorem dp_leaves {p : Addr} {vs : List V} {ds : List PyData} (hS : Sok S b H) (hp : H p = none) (h : ∀ H2, DpAll K H2 vs ds) : Dp K (cut S (upd H p (.tup vs))) (.ref p) (.tuple ds) :=
  .tup (st_of (cut_at upd_same (hS.new hp))) (h _)
/-- a list of keys at l -/
structure KeysAt (b : Addr) (H : Hp) (l : Addr) (ks : List Int) : Prop where
  ne : l ≠ b
  h : H l = some (.lst (ks.map V.int))
  bd : ∀ k ∈ ks, 0 ≤ k ∧ k < 1000
  few : ks.length ≤ 1000
  some : 0 < ks.length
theorem KeysAt.fr {l : Addr} {ks : List Int} (k : KeysAt b H l ks) (f : Fr b H H') : KeysAt b H' l ks := ⟨k.ne, f.at k.h k.ne, k.bd, k.few, k.some⟩
/-- one of the keys -/
def spOf : Sp := fun vs H Q _ => ∃ (b l : Addr) (ks : List Int), vs = [.ref b, .ref l] ∧ Bag H b ∧ KeysAt b H l ks ∧ ∀ k H', k ∈ ks → Fr b H H' → Q (.int k) H'
end
end Tc
/-! a set comprehension with two for's, its members ints -/
namespace Tc
open PySem PySem.Spec PyProof.Rows L2
/-- {elt for t0 in i0 if .. for t1 in i1 if ..} -/
abbrev Sc2 (elt t0 i0 t1 i1 : Expr) (c0 c1 : List Expr) (sc : Scope) (ps : Pos) : Expr := .SetComp elt [⟨t0, i0, c0, 0⟩, ⟨t1, i1, c1, 0⟩] sc ps
/-- the tests of a clause, one behind the other -/
abbrev allOf (cs : List Expr) (env : Env) : Sem Bool := forIn cs true fun c r => if r = true then do let ok ← isTrue c env (eval c env); pure (ForInStep.yield ok) else pure (ForInStep.yield r)
section
variable {prog : Program} {w : World} {A : Around} {R : Result → Shared → Prop} {s : Shared} {elt t0 i0 t1 i1 : Expr} {c0 c1 : List Expr} {sc : Scope} {ps : Pos} {it acc : Value} {env : Env}
/-- what is raised goes the way that the comprehension's frame notes -/
abbrev Nt (prog : Program) (w : World) (A : Around) (env : Env) (R : Result → Shared → Prop) : Value → Shared → Prop := notedBy (model prog w) A env fun e s' => R (.error e) s'
theorem turnS_out : compTurn (Sc2 elt t0 i0 t1 i1 c0 c1 sc ps) 0 it acc env = (standAt i0.pos >>= fun _ => pyNext it >>= fun r => match r with
      | none => pure (.done .next)
      | some v => (letOwnedTupleGo t0 it v >>= fun _ => assign t0 env v >>= fun _ => allOf c0 env >>= fun ok => if ok then
          (eval i1 env >>= fun x => standAt i1.pos >>= fun _ => foldedSetIterable i1 env x >>= fun x => holding [x] (pyIter x) >>= fun j => runOwn (.compStart (Sc2 elt t0 i0 t1 i1 c0 c1 sc ps) 1 j acc env) env >>= fun _ => again (.compLoop (Sc2 elt t0 i0 t1 i1 c0 c1 sc ps) 0 it acc env))
          else again (.compLoop (Sc2 elt t0 i0 t1 i1 c0 c1 sc ps) 0 it acc env))) := by rfl
theorem turnS_in : compTurn (Sc2 elt t0 i0 t1 i1 c0 c1 sc ps) 1 it acc env = (standAt i1.pos >>= fun _ => pyNext it >>= fun r => match r with
      | none => pure (.done .next)
      | some v => (letOwnedTupleGo t1 it v >>= fun _ => assign t1 env v >>= fun _ => allOf c1 env >>= fun ok => if ok then
          ((eval elt env >>= fun v => standAt elt.pos >>= fun _ => call (.builtin "set.add") [acc, v] >>= fun _ => pure ()) >>= fun _ => again (.compLoop (Sc2 elt t0 i0 t1 i1 c0 c1 sc ps) 1 it acc env))
          else again (.compLoop (Sc2 elt t0 i0 t1 i1 c0 c1 sc ps) 1 it acc env))) := by rfl
/-- one turn of a clause: what comes next is taken, stored and tested; Y: what is wanted where the tests hold, N: where they don't, Z: at the end -/
def TurnOf (prog : Program) (w : World) (A : Around) (env : Env) (E : Value → Shared → Prop) (tg : Expr) (cs : List Expr) (it : Value) (Z : Shared → Prop) (Y N : Shared → Prop) (s : Shared) : Prop :=
  wpAny (model prog w) A (pyNext it) (fun r s₁ => match r with
    | none => Z s₁
    | some v => wpAny (model prog w) A (letOwnedTupleGo tg it v) (fun _ s₂ => wpAny (model prog w) A (assign tg env v) (fun _ s₃ => wpAny (model prog w) A (allOf cs env) (fun ok s₄ => if ok = true then Y s₄ else N s₄) E s₃) E s₂) E s₁) E s
theorem loopS_in (I : Nat → Shared → Prop) (turn : ∀ n s, I n s → TurnOf prog w A env (Nt prog w A env R) t1 c1 it (R (.ok .next))
      (fun s₄ => wpAny (model prog w) A (eval elt env) (fun x s₅ => wpAny (model prog w) A (call (.builtin "set.add") [acc, x]) (fun _ s₆ => ∃ m, m < n ∧ I m s₆) (Nt prog w A env R) s₅) (Nt prog w A env R) s₄) (fun s₄ => ∃ m, m < n ∧ I m s₄) s)
    (n : Nat) (h : I n s) : codeAny (model prog w) A (.compLoop (Sc2 elt t0 i0 t1 i1 c0 c1 sc ps) 1 it acc env) R s := by
  refine codeAny_loop rfl I (fun n s hI => (show wpAny _ A ((compTurn (Sc2 elt t0 i0 t1 i1 c0 c1 sc ps) 1 it acc env).onRaise (fun x => do noteFrame x env; theTreesLotGoes x)) _ _ s from wpAny_noted ?_)) n h
  rw [turnS_in]
  refine wpAny_bind (wpAny_standAt (wpAny_bind (wpAny_mono (turn n s hI) (fun r s₁ h₁ => ?_) fun _ _ z => z)))
  match r, h₁ with
  | none, h₁ => exact wpAny_pure h₁
  | some v, h₁ =>
    refine wpAny_bind (wpAny_mono h₁ (fun _ s₂ h₂ => wpAny_bind (wpAny_mono h₂ (fun _ s₃ h₃ => wpAny_bind (wpAny_mono h₃ (fun ok s₄ h₄ => ?_) fun _ _ z => z)) fun _ _ z => z)) fun _ _ z => z)
    match ok, h₄ with
    | false, h₄ => exact wpAny_pure ⟨rfl, h₄⟩
    | true, h₄ => exact wpAny_bind (wpAny_bind (wpAny_mono h₄ (fun x s₅ h₅ => wpAny_bind (wpAny_standAt (wpAny_bind (wpAny_mono h₅ (fun _ s₆ h₆ => wpAny_pure (wpAny_pure ⟨rfl, h₆⟩)) fun _ _ z => z)))) fun _ _ z => z))
theorem loopS_out (hs : ∀ x, foldedSetIterable i1 env x = pure x) (I : Nat → Shared → Prop) (turn : ∀ n s, I n s → TurnOf prog w A env (Nt prog w A env R) t0 c0 it (R (.ok .next))
      (fun s₄ => wpAny (model prog w) A (eval i1 env) (fun x s₅ => wpAny (model prog w) A (pyIter x) (fun j s₆ => codeAny (model prog w) A (.compStart (Sc2 elt t0 i0 t1 i1 c0 c1 sc ps) 1 j acc env) (fun r s' => match r with
        | .ok _ => ∃ m, m < n ∧ I m s' | .error _ => False) s₆) (Nt prog w A env R) s₅) (Nt prog w A env R) s₄) (fun s₄ => ∃ m, m < n ∧ I m s₄) s)
    (n : Nat) (h : I n s) : codeAny (model prog w) A (.compLoop (Sc2 elt t0 i0 t1 i1 c0 c1 sc ps) 0 it acc env) R s := by
  refine codeAny_loop rfl I (fun n s hI => (show wpAny _ A ((compTurn (Sc2 elt t0 i0 t1 i1 c0 c1 sc ps) 0 it acc env).onRaise (fun x => do noteFrame x env; theTreesLotGoes x)) _ _ s from wpAny_noted ?_)) n h
  rw [turnS_out]
  refine wpAny_bind (wpAny_standAt (wpAny_bind (wpAny_mono (turn n s hI) (fun r s₁ h₁ => ?_) fun _ _ z => z)))
  match r, h₁ with
  | none, h₁ => exact wpAny_pure h₁
  | some v, h₁ =>
    refine wpAny_bind (wpAny_mono h₁ (fun _ s₂ h₂ => wpAny_bind (wpAny_mono h₂ (fun _ s₃ h₃ => wpAny_bind (wpAny_mono h₃ (fun ok s₄ h₄ => ?_) fun _ _ z => z)) fun _ _ z => z)) fun _ _ z => z)
    match ok, h₄ with
    | false, h₄ => exact wpAny_pure ⟨rfl, h₄⟩
    | true, h₄ =>
      refine wpAny_bind (wpAny_mono h₄ (fun x s₅ h₅ => wpAny_bind (wpAny_standAt (wpAny_bind (wpAny_of_eq (hs x) (wpAny_bind (wpAny_holding (wpAny_mono h₅ (fun j s₆ h₆ => wpAny_bind (wpAny_runOwn ?_)) fun _ _ z => z))))))) fun _ _ z => z)
      rw [Around.mark_none]
      refine codeAny_mono h₆ fun r s' hr => ?_
      match r, hr with
      | .ok f, hr => first | exact wpAny_pure ⟨rfl, hr⟩ | exact wpAny_bind (wpAny_pure (wpAny_pure ⟨rfl, hr⟩))
      | .error e, hr => exact hr.elim
/-- the start of either clause's loop -/
theorem startS {k : Nat} (hk : k = 0 ∨ k = 1) (h0 : codeAny (model prog w) A (.compLoop (Sc2 elt t0 i0 t1 i1 c0 c1 sc ps) k it acc env) R s)
    (h : wpAny (model prog w) A (pyIter it) (fun j s' => codeAny (model prog w) A (.compLoop (Sc2 elt t0 i0 t1 i1 c0 c1 sc ps) k j acc env) R s') (Nt prog w A env R) s) :
    codeAny (model prog w) A (.compStart (Sc2 elt t0 i0 t1 i1 c0 c1 sc ps) k it acc env) R s := by
  rcases hk with rfl | rfl
  · refine codeAny_of_tree (show wpAny _ _ ((compStart (Sc2 elt t0 i0 t1 i1 c0 c1 sc ps) 0 it acc env).onRaise (fun x => do noteFrame x env; standAt theWindowsPlace)) _ _ s from wpAny_notedAt ?_)
    unfold compStart
    refine (show wpAny _ _ (ask >>= _) _ _ s from wpAny_bind (wpAny_askSetting (wpAny_ite ?_)))
    split
    · first | exact wpAny_bind (wpAny_pure (wpAny_pure ⟨rfl, h0⟩)) | exact wpAny_pure ⟨rfl, h0⟩
    · first
        | exact wpAny_bind (wpAny_rule (wpAny_bind (wpAny_standAt (wpAny_bind (wpAny_mono h (fun j s' z => wpAny_pure ⟨rfl, z⟩) fun _ _ z => z)))))
        | exact wpAny_bind (wpAny_rule (show wpAny _ _ (standAt i0.pos >>= _) _ _ s from wpAny_bind (wpAny_standAt (wpAny_bind (wpAny_mono h (fun j s' z => wpAny_pure ⟨rfl, z⟩) fun _ _ z => z)))))
  · refine codeAny_of_tree (show wpAny _ _ ((compStart (Sc2 elt t0 i0 t1 i1 c0 c1 sc ps) 1 it acc env).onRaise (fun x => do noteFrame x env; standAt theWindowsPlace)) _ _ s from wpAny_notedAt ?_)
    unfold compStart
    refine (show wpAny _ _ (ask >>= _) _ _ s from wpAny_bind (wpAny_askSetting (wpAny_ite ?_)))
    split
    · first | exact wpAny_bind (wpAny_pure (wpAny_pure ⟨rfl, h0⟩)) | exact wpAny_pure ⟨rfl, h0⟩
    · first
        | exact wpAny_bind (wpAny_rule (wpAny_bind (wpAny_standAt (wpAny_bind (wpAny_mono h (fun j s' z => wpAny_pure ⟨rfl, z⟩) fun _ _ z => z)))))
        | exact wpAny_bind (wpAny_rule (show wpAny _ _ (standAt i1.pos >>= _) _ _ s from wpAny_bind (wpAny_standAt (wpAny_bind (wpAny_mono h (fun j s' z => wpAny_pure ⟨rfl, z⟩) fun _ _ z => z)))))
end
section
variable {X : Cx}
/-- the empty set at D -/
abbrev set0 (w : World) (D : Addr) : HO := SetO w D (fun _ => false) 0
/-- k more in the set at D -/
abbrev setMore (w : World) (D : Addr) (S : Int → Bool) (n : Nat) (k : Int) : HO := SetO w D (fun j => S j || decide (j = k)) (if S k = true then n else n + 1)
/-- behind the first clause's store and tests stands the second clause's own loop; vs: the names of both, vs1: of the second -/
def tSc2 (w : World) (wi : TI) (g : TG) (tt : TT) (wi1 : TI) (g1 : TG) (tt1 : TT) (te : TE) (vs vs1 : List Nat) : TE := fun σ H Q => wi σ H fun J H1 => ∀ D, H1 D = none → ∃ W : Nat → Nat → Hp → Prop, (∃ m, W 0 m (upd H1 D (set0 w D))) ∧ ∀ i m H, W i m H →
  (J.stop i H ∧ Q (.ref D) H) ∨ (J.go i H ∧ ∃ Nx : Hp → Prop, (∀ H', Nx H' → ∃ m', m' < m ∧ W (i + 1) m' H') ∧ ∀ x H', J.yld i H x H' → g x (wipe σ vs) H' fun σ2 H2 => wipe σ2 vs = wipe σ vs ∧ tt σ2 H2 fun b H3 => if b = true then
    wi1 σ2 H3 fun J1 H4 => ∃ W1 : Nat → Nat → Hp → Prop, (∃ m, W1 0 m H4) ∧ ∀ j k H, W1 j k H → (J1.stop j H ∧ Nx H) ∨ (J1.go j H ∧ ∃ Nx1 : Hp → Prop, (∀ H', Nx1 H' → ∃ k', k' < k ∧ W1 (j + 1) k' H') ∧
      ∀ x H', J1.yld j H x H' → g1 x (wipe σ2 vs1) H' fun σ3 H5 => wipe σ3 vs1 = wipe σ2 vs1 ∧ tt1 σ3 H5 fun b H6 => if b = true then te σ3 H6 fun y H7 => ∃ (c : Int) (S : Int → Bool) (n : Nat), y = .int c ∧ H7 D = some (SetO w D S n) ∧ n + 1 < scanBound ∧ Nx1 (upd H7 D (setMore w D S n c)) else Nx1 H6)
    else Nx H3)
theorem add_int {pins : List (Addr × Obj)} {σ : L2.St} {H : Hp} {s : Shared} {E : Value → Shared → Prop} {D : Addr} {S : Int → Bool} {n : Nat} {c : Int} {v : Value} {Q : Value → Shared → Prop} (I : Inv X pins σ H s) (hD : H D = some (SetO X.w D S n)) (room : n + 1 < scanBound) (rv : RelV (.int c) v)
    (h : ∀ s', Inv X pins σ (upd H D (setMore X.w D S n c)) s' → Q .none s') : wpAny (model X.prog X.w) X.A (call (.builtin "set.add") [.ref D, v]) Q E s := by
  obtain ⟨t, rfl⟩ := rv
  refine setR_add (setO_get I hD) room fun h' sb new => h _ (I.write (e := D) (t' := s.toks + 1) (by rw [hD]; trivial) (.inl rfl) (fun b u hb hu => (sb.2 b hb).trans hu) ?_ (setO_new new))
  exact let ⟨o, _, _, _, ho, _⟩ := new; ⟨o, ho⟩
set_option maxHeartbeats 4000000 in
theorem pe_sc2 {elt tg iter tg1 iter1 : Expr} {ifs ifs1 : List Expr} {sc : Scope} {own : List (Str × Nat)} {vs1 : List Nat} {pos : Pos} {wi wi1 : TI} {g g1 : TG} {tt tt1 : TT} {te : TE} (hc : X.calm = true) (hN : X.N.Nodup) (hi : PI X tg iter wi) (ok : BlkOk X.N X.env.scope sc own) (hv : ∀ i ∈ vs1, i ∈ own.map (·.2))
    (hb : ∀ (s : Shared) (H : Hp) (C : Addr) (cl : List (Str × Addr)) (fp : List Addr), (PG (X.blk s H sc (compEnvC sc cl C X.env) fp) tg g ∧ PTs (X.blk s H sc (compEnvC sc cl C X.env) fp) ifs tt) ∧ (PI (X.blk s H sc (compEnvC sc cl C X.env) fp) tg1 iter1 wi1 ∧ PG (X.blk s H sc (compEnvC sc cl C X.env) fp) tg1 g1 ∧ PTs (X.blk s H sc (compEnvC sc cl C X.env) fp) ifs1 tt1) ∧ PE (X.blk s H sc (compEnvC sc cl C X.env) fp) elt te)
    (hs : ∀ x, foldedSetIterable iter X.env x = pure x := by intro _; rfl) (hs1 : ∀ env x, foldedSetIterable iter1 env x = pure x := by intro _ _; rfl) :
    PE X (Sc2 elt tg iter tg1 iter1 ifs ifs1 sc pos) (tSc2 X.w wi g tt wi1 g1 tt1 te (own.map (·.2)) vs1) := by
  refine ⟨fun pins s σ H Q I h => ?_⟩
  have hfree : ∀ y ∈ sc.names, y.2 = .free → ∃ c, X.env.cells.lookup y.1 = some c := fun y hy e => (ok.free y hy e).elim (fun z => I.ok.has _ (.inl z)) fun z => I.ok.has _ (.inr z)
  rw [PpSet.eval_SetComp]
  refine wpAny_comprehension_free (use := none) rfl hs (closure_ok hfree) ok.kind (fun y hy e => by rw [ok.uniq y hy, e]) (thn (hi.run pins s σ H _ I h) fun xv s1 hxs => thn hxs fun itv s2 h2 => ?_)
  obtain ⟨it, fp, tn, J, H2, rfl, I2, T, be2, f2, q⟩ := h2
  refine PpSet.newSet_ok (newEnv_comp ?_)
  generalize hD : s2.heap.objs.size = D
  have freeD : H2 D = none := I2.hok.fresh (Nat.le_of_eq hD)
  obtain ⟨W, ⟨m0, w0⟩, tick⟩ := q D freeD
  show codeAny _ _ (.compStart (Sc2 elt tg iter tg1 iter1 ifs ifs1 sc pos) 0 (.ref it) (.ref D) (compEnvC sc (cellsFrom ((withSet X.w s2).heap.objs.size + 1) sc.names (cloFrom X.env.cells sc.names [])) (withSet X.w s2).heap.objs.size X.env)) (compPost (model X.prog X.w) X.A X.xe none (EP X pins σ Q) (.ref D) (withSet X.w s2).heap.objs.size) { (withSet X.w s2) with heap := pushCells ((withSet X.w s2).heap.push { cls := .type "dict", data := .dict #[] }) sc.names }
  generalize hs3 : withSet X.w s2 = s3
  have h3 : s3.heap = s2.heap.push (noneSet X.w) := by rw [← hs3]
  have I3 : Inv X pins σ (upd H2 D (set0 X.w D)) s3 := by
    subst hs3 hD
    exact I2.laid (t' := s2.toks) (fun b o e => Heap.get?_push_of_some _ e) (Nat.le_refl _) (setO_new (setR_fresh X.w))
  have f3 : ∀ b ∈ fp, FpOk X pins (upd H2 D (set0 X.w D)) b ∧ b < s3.heap.objs.size := fun b hb => by
    obtain ⟨o, e, _⟩ := T.obj _ _ be2 b hb
    have lt := Heap.lt_size e
    exact ⟨⟨by rw [upd_ne (by rw [← hD]; exact Nat.ne_of_lt lt)]; exact (f2 b hb).1, (f2 b hb).2⟩, by rw [h3, Heap.size_push]; exact Nat.lt_succ_of_lt lt⟩
  have J4 := block_start I3 ok hN f3
  obtain ⟨⟨pg, pt⟩, ⟨pi1, pg1, pt1⟩, pe⟩ := hb s3 (upd H2 D (set0 X.w D)) s3.heap.objs.size (cellsFrom (s3.heap.objs.size + 1) sc.names (cloFrom X.env.cells sc.names [])) fp
  have no3 : ∀ b ∈ fp, (upd H2 D (set0 X.w D)) b = none := fun b hb => (f3 b hb).1.1
  have be3 : tn 0 s3.heap := T.keep _ _ _ be2 fun b _ o e => by rw [h3]; exact Heap.get?_push_of_some _ e
  generalize hce : compEnvC sc (cellsFrom (s3.heap.objs.size + 1) sc.names (cloFrom X.env.cells sc.names [])) s3.heap.objs.size X.env = ce at J4 pg pt pe pi1 pg1 pt1 ⊢
  have loc : ce.locals = s3.heap.objs.size := by subst hce; rfl
  generalize hH3 : upd H2 D (set0 X.w D) = H3 at I3 J4 pg pt pe pi1 pg1 pt1 w0 no3 f3
  generalize hs4 : ({ s3 with heap := pushCells (s3.heap.push { cls := .type "dict", data := .dict #[] }) sc.names } : Shared) = s4 at J4 ⊢
  have be4 : tn 0 s4.heap := T.keep _ _ _ be3 fun b _ o e => by subst hs4; exact pushCells_keeps _ _ _ _ (Heap.get?_push_of_some _ e)
  have free1 : ∀ {τ : L2.St} {G : Hp} {u : Shared}, Inv (X.blk s3 H3 sc ce fp) [] τ G u → (∀ b ∈ fp, G b = none) → ∀ b ∈ fp, FpOk (X.blk s3 H3 sc ce fp) [] G b := fun {τ G u} I' hn b hb =>
    ⟨hn b hb, (I'.ok.exf b hb).1, I'.ok.exfs b hb, .inl hb, fun x c e => (I'.ok.exf b hb).2 x c e, fun p hp => by simp at hp⟩
  /- the state between two turns of the first loop -/
  let At : Nat → Shared → Prop := fun n u => ∃ i G, Inv (X.blk s3 H3 sc ce fp) [] (wipe σ (own.map (·.2))) G u ∧ tn i u.heap ∧ (∀ b ∈ fp, G b = none) ∧ W i n G
  refine startS (.inl rfl) ?loop (T.self X.A 0 _ _ _ be4 ?loop)
  case loop =>
    refine loopS_out (hs1 ce) At ?_ m0 ⟨0, H3, J4, be4, no3, w0⟩
    rintro n s5 ⟨i, H5, I5, be5, n5, wd5⟩
    rcases tick i n H5 wd5 with ⟨stop, qq⟩ | ⟨go, Nx, hNx, step⟩
    · refine thnF (T.done (X.blk s3 H3 sc ce fp) rfl rfl rfl hc i [] s5 _ H5 (fun _ _ => False) I5 (free1 I5 n5) be5 stop) fun r s6 ⟨hr, I6⟩ => ?_
      subst hr
      have J7 : Inv X pins σ H5 s6 := I3.call' (ch := fp) I6.os I6.base I6.hok I6.bare fun b hb => ⟨(f3 b hb).1.2.2.2.1, (f3 b hb).1.2.1, (f3 b hb).1.2.2.2.2.1, (f3 b hb).1.2.2.2.2.2⟩
      have gone : H5 s3.heap.objs.size = none := loc ▸ (I6.free : H5 ce.locals = none)
      obtain ⟨m, hm, _⟩ := I6.loc
      obtain ⟨g0, g1', g2, g3, g4, g5⟩ := I3.fpOk (Nat.le_refl _) gone
      exact ⟨m, loc ▸ (hm : s6.heap.Ns ce.locals m), fun h'' sb => ⟨.ref D, H5, J7.turned (t' := s6.toks) (fun b o hb e => (sb.2 b hb).trans e) g0 g1' g3 g4 g5, rfl, qq⟩⟩
    · refine thnF (T.item (X.blk s3 H3 sc ce fp) rfl rfl rfl hc i [] s5 _ H5 (fun _ _ => False) I5 (free1 I5 n5) be5 go) fun r s6 ⟨u, hr, h6⟩ => ?_
      subst hr
      refine thnF h6 fun _ s7 ⟨x, H7, I7, r7, y7, be7, n7⟩ => thnF (pg.run _ s7 _ H7 x u _ (I7.pinned (free1 I7 n7) (T.obj _ _ be7)) r7 (step x H7 y7)) fun _ s8 ⟨σ8, H8, I8, hw8, q8⟩ => thnF (pt.run _ s8 σ8 H8 _ I8 q8) fun b s9 ⟨H9, I9, q9⟩ => ?_
      have back : ∀ {τ : L2.St} {u : Shared} {G : Hp}, Inv (X.blk s3 H3 sc ce fp) ([] ++ pinsAt fp s7.heap) τ G u → (wipe σ (own.map (·.2))).length = τ.length → (∀ (j : Nat) v, (wipe σ (own.map (·.2)))[j]? = some (some v) → τ[j]? = some (some v)) → Nx G → ∃ m, m < n ∧ At m u := fun {τ u G} I' hl hk nx => by
        obtain ⟨m', hm, w'⟩ := hNx G nx
        have pin : ∀ b ∈ fp, ∀ o, s7.heap.get? b = some o → u.heap.get? b = some o ∧ G b = none := fun b hb o e => ⟨(I'.pin (b, o) (List.mem_append_right _ (List.mem_append_right _ (mem_pinsAt hb e)))).1, (I'.pin (b, o) (List.mem_append_right _ (List.mem_append_right _ (mem_pinsAt hb e)))).2.1⟩
        refine ⟨m', hm, i + 1, G, (I'.unpinned (pins := [])).weak hl hk, T.keep _ _ _ be7 fun b hb o e => (pin b hb o e).1, fun b hb => ?_, w'⟩
        obtain ⟨o, e, _⟩ := T.obj _ _ be7 b hb
        exact (pin b hb o e).2
      have l8 : (wipe σ (own.map (·.2))).length = σ8.length := by rw [← hw8, wipe_length]
      have k8 : ∀ (j : Nat) v, (wipe σ (own.map (·.2)))[j]? = some (some v) → σ8[j]? = some (some v) := fun j v e => (wipe_some (hw8 ▸ e)).1
      have k9 : ∀ (j : Nat) v, (wipe σ (own.map (·.2)))[j]? = some (some v) → (wipe σ8 vs1)[j]? = some (some v) := fun j v e => by
        obtain ⟨e1, out2⟩ := wipe_some (hw8 ▸ e)
        rw [wipe_out fun z => out2 (hv j z)]
        exact e1
      match b, q9 with
      | false, q9 =>
        show ∃ m, m < n ∧ At m s9
        exact back I9 l8 k8 q9
      | true, q9 =>
        refine thnF (pi1.run _ s9 σ8 H9 _ I9 q9) fun xv s10 hxs => thnF hxs fun itv s11 h11 => ?_
        obtain ⟨it1, fp1, tn1, J1, H11, rfl, I11, T1, be11, f11, W1, ⟨m1, w1⟩, tick1⟩ := h11
        have free2 : ∀ {G : Hp}, (∀ b ∈ fp1, G b = none) → ∀ b ∈ fp1, FpOk (X.blk s3 H3 sc ce fp) ([] ++ pinsAt fp s7.heap) G b := fun hn b hb => ⟨hn b hb, (f11 b hb).2⟩
        let At1 : Nat → Shared → Prop := fun k u => ∃ j G, Inv (X.blk s3 H3 sc ce fp) ([] ++ pinsAt fp s7.heap) (wipe σ8 vs1) G u ∧ tn1 j u.heap ∧ (∀ b ∈ fp1, G b = none) ∧ W1 j k G
        refine startS (.inr rfl) ?inner (T1.self X.A 0 _ _ _ be11 ?inner)
        case inner =>
          refine loopS_in At1 ?_ m1 ⟨0, H11, I11.weak (wipe_length _ _) (fun j v e => (wipe_some e).1), be11, fun b hb => (f11 b hb).1, w1⟩
          rintro k s12 ⟨j, H12, I12, be12, n12, wd12⟩
          rcases tick1 j k H12 wd12 with ⟨stop1, nx1⟩ | ⟨go1, Nx1, hNx1, step1⟩
          · refine thnF (T1.done (X.blk s3 H3 sc ce fp) rfl rfl rfl hc j _ s12 (wipe σ8 vs1) H12 (fun _ _ => False) I12 (free2 n12) be12 stop1) fun r s13 ⟨hr, I13⟩ => ?_
            subst hr
            exact back I13 (l8.trans (wipe_length σ8 vs1).symm) k9 nx1
          · refine thnF (T1.item (X.blk s3 H3 sc ce fp) rfl rfl rfl hc j _ s12 (wipe σ8 vs1) H12 (fun _ _ => False) I12 (free2 n12) be12 go1) fun r s13 ⟨u1, hr, h13⟩ => ?_
            subst hr
            refine thnF h13 fun _ s14 ⟨x1, H14, I14, r14, y14, be14, n14⟩ => thnF (pg1.run _ s14 (wipe σ8 vs1) H14 x1 u1 _ (I14.pinned (free2 n14) (T1.obj _ _ be14)) r14 (step1 x1 H14 y14)) fun _ s15 ⟨σ15, H15, I15, hw15, q15⟩ => thnF (pt1.run _ s15 σ15 H15 _ I15 q15) fun b1 s16 ⟨H16, I16, q16⟩ => ?_
            have back1 : ∀ {u : Shared} {G : Hp}, Inv (X.blk s3 H3 sc ce fp) (([] ++ pinsAt fp s7.heap) ++ pinsAt fp1 s14.heap) σ15 G u → Nx1 G → ∃ m, m < k ∧ At1 m u := fun {u G} I' nx => by
              obtain ⟨m', hm, w'⟩ := hNx1 G nx
              have pin : ∀ b ∈ fp1, ∀ o, s14.heap.get? b = some o → u.heap.get? b = some o ∧ G b = none := fun b hb o e => ⟨(I'.pin (b, o) (List.mem_append_right _ (List.mem_append_right _ (mem_pinsAt hb e)))).1, (I'.pin (b, o) (List.mem_append_right _ (List.mem_append_right _ (mem_pinsAt hb e)))).2.1⟩
              refine ⟨m', hm, j + 1, G, I'.unpinned.weak (by rw [← hw15, wipe_length]) (fun j v e => (wipe_some (hw15 ▸ e)).1), T1.keep _ _ _ be14 fun b hb o e => (pin b hb o e).1, fun b hb => ?_, w'⟩
              obtain ⟨o, e, _⟩ := T1.obj _ _ be14 b hb
              exact (pin b hb o e).2
            match b1, q16 with
            | false, q16 =>
              show ∃ m, m < k ∧ At1 m s16
              exact back1 I16 q16
            | true, q16 =>
              refine thnF (pe.run _ s16 σ15 H16 _ I16 q16) fun z s17 ⟨yv, H17, I17, r17, c, S0, n0, ey, hD17, room, nx⟩ => ?_
              subst ey
              exact add_int (X := X.blk s3 H3 sc ce fp) I17 hD17 room r17 fun s18 I18 => back1 I18 nx
end
end Tc
/-! name = {dict comprehension}; tuple(list) as a tuple without a dict of its own; dict(tuple of pairs) -/
namespace Tc
open PySem PySem.Spec PyProof.Rows L2
section
variable {X : Cx}
/-- a tuple that is known to have no dict of its own -/
def PT (H : Hp) (a : Addr) (xs : List V) : Prop := ∃ o : Obj, H a = some (.frz o (.tup xs)) ∧ o.dict = none
theorem PT.same {H H' : Hp} {a : Addr} {xs : List V} (h : PT H a xs) (e : Same H H') : PT H' a xs := let ⟨o, x, d⟩ := h; ⟨o, e a _ x, d⟩
theorem PT.st {K : PySem.W.Frag} {H : Hp} {a : Addr} {xs : List V} (h : PT H a xs) : SqT K H a xs := let ⟨o, x, _⟩ := h; .inl (.inr ⟨o, x⟩)
/-- tuple(list) -/
def rTupP (K : PySem.W.Frag) : List V → Hp → VK → Prop := fun xs H Q => ∃ (p : Addr) (ys : List V), xs = [.ref p] ∧ SqL K H p ys ∧ ∀ (l : Addr) (o : Obj), H l = none → o.dict = none → Q (.ref l) (upd H l (.frz o (.tup ys)))
theorem cr_tupP : CallR X (.type "tuple") (rTupP X.K) := by
  intro pins s σ H xs us Q I r ⟨p, ys, e0, hs, fin⟩
  subst e0
  rw [Vals.ref1 r]
  have ⟨its, rv, pl, size⟩ := I.list hs
  refine call_tuple_list pl.isList (fun g keep => ?_) (by rw [List.size_toArray, ← rv.length]; exact size)
  have kept := I.kept (h' := g) (t' := s.toks) keep
  refine ⟨.ref g.objs.size, _, ?_, rfl, fin _ { cls := .type "tuple", data := .seq its.toArray } (kept.hok.fresh (Nat.le_refl _)) rfl⟩
  exact kept.laid (t' := s.toks) (fun b o e => Heap.get?_push_of_some _ e) (Nat.le_refl _) (show ObjOk X.prog X.w _ _ _ (.frz _ (.tup ys)) from ⟨Heap.get?_push_size _ rfl, size, its, rv, IsTup.new _ _⟩)
/-- dict(tuple of pairs) -/
def rDictT (K : PySem.W.Frag) : List V → Hp → VK → Prop := fun xs H Q => ∃ (a : Addr) (ps : List Addr) (kvs : List (Key × V)), xs = [.ref a] ∧ PT H a (ps.map V.ref) ∧ Paired (fun p kv => SqT K H p [kV kv.1, kv.2]) ps kvs ∧
    ∀ p, H p = none → Q (.ref p) (upd H p (.dK (mergeK [] kvs)))
theorem cr_dictT (hcalm : X.calm = true) : CallR X (.type "dict") (rDictT X.K) := by
  intro pins s σ H xs us Q I r ⟨a, ps, kvs, e0, ⟨o, ho, hdn⟩, hp, q⟩
  subst e0
  rw [Vals.ref1 r]
  obtain ⟨hg, hz, its, rv, o', hg', hcl, n, hdat⟩ := (show ObjOk X.prog X.w H s.heap a (.frz o (.tup (ps.map V.ref))) from I.hok a _ ho)
  obtain rfl : o = o' := Option.some.inj (hg.symm.trans hg')
  have ei := refs_at rv
  subst ei
  rw [List.length_map] at hz
  have ⟨prs, rel, hl, hpr⟩ := pairs_of I hp
  have key : ∃ qs : List (Value × Value), qs.length = prs.length ∧ ∀ (j : Nat) (k v : Value), qs[j]? = some (k, v) → ∃ q, prs[j]? = some q ∧ q.2 = v ∧ ∃ b, ps[j]? = some b ∧ IsTup s.heap b #[k, v] ∧ keyIs q.1 k = true := by
    clear q rel
    have : ∀ (n : Nat), n ≤ prs.length → ∃ qs : List (Value × Value), qs.length = n ∧ ∀ (j : Nat) (k v : Value), qs[j]? = some (k, v) → ∃ q, prs[j]? = some q ∧ q.2 = v ∧ ∃ b, ps[j]? = some b ∧ IsTup s.heap b #[k, v] ∧ keyIs q.1 k = true := by
      intro n
      induction n with
      | zero => exact fun _ => ⟨[], rfl, fun j k v e => by simp at e⟩
      | succ n ih =>
        intro hn
        obtain ⟨qs, l1, h1⟩ := ih (by omega)
        obtain ⟨b, u, e1, e2, e3⟩ := hpr n prs[n] (by simp)
        refine ⟨qs ++ [(u, prs[n].2)], by simp [l1], fun j k v e => ?_⟩
        by_cases hj : j < qs.length
        · rw [List.getElem?_append_left hj] at e
          exact h1 j k v e
        · rw [List.getElem?_append_right (by omega)] at e
          have hj0 : j - qs.length = 0 := by
            rcases Nat.eq_zero_or_pos (j - qs.length) with z | z
            · exact z
            · rw [List.getElem?_eq_none (by simp; omega)] at e
              cases e
          rw [hj0] at e
          have ej : j = n := by omega
          subst ej
          simp only [List.getElem?_cons_zero, Option.some.injEq, Prod.mk.injEq] at e
          obtain ⟨rfl, rfl⟩ := e
          exact ⟨prs[j], by simp, rfl, b, e1, e2, e3⟩
    exact this _ (Nat.le_refl _)
  obtain ⟨qs, lq, hqs⟩ := key
  refine PySem.call_dict_pairs (knd := mixKind X.prog X.w) (kvs := prs) (PairArg.tuple a (ps.map Value.ref).toArray (fun j => ps.getD j 0) qs) (I.ok.hd hcalm) ⟨⟨o, n, hg, hcl, hdn, hdat⟩, by simp [lq, hl], fun j k v e => ?_⟩ ⟨lq.symm, fun j k v e => ?_⟩ (by rw [lq, hl]; exact hz) fun h' tk hd' k => ?_
  · obtain ⟨q', e1, e2, b, e3, e4, e5⟩ := hqs j k v e
    have eb : ps.getD j 0 = b := by rw [List.getD_eq_getElem?_getD, e3]; rfl
    refine ⟨by simp [e3], .inl ?_⟩
    show s.heap.IsTuple (ps.getD j 0) _
    rw [eb]
    exact e4
  · obtain ⟨q', e1, e2, b, e3, e4, e5⟩ := hqs j k v e
    exact ⟨q'.1, by rw [e1, ← e2], e5⟩
  · have few : (mergeK [] kvs).length ≤ sizeLine := Nat.le_trans (length_mergeK kvs []) (by simpa [rel.length, hl] using hz)
    refine ⟨.ref s.heap.objs.size, upd H s.heap.objs.size (.dK (mergeK [] kvs)), ?_, rfl, q _ (I.hok.fresh (Nat.le_refl _))⟩
    exact I.laid (t' := tk) (fun b o e => k b o (by simp) e) (Nat.le_refl _) (show ObjOk X.prog X.w _ _ _ (.dK (mergeK [] kvs)) from ⟨few, beq_eq_false_iff_ne.mpr (Nat.ne_of_gt I.big), merged [] prs, KV.merge rel .nil, hd'⟩)
end
end Tc
/-! a dict of worths by keys, and what changes do to it -/
namespace Tc
open PySem PySem.Spec PyProof.Rows L2
def fset (f : Int → Option Int) (k : Int) (o : Option Int) : Int → Option Int := fun j => if j = k then o else f j
def appl (f : Int → Option Int) (cs : List (Int × Option Int)) : Int → Option Int := cs.foldl (fun f c => fset f c.1 c.2) f
theorem appl_app (f : Int → Option Int) (a b : List (Int × Option Int)) : appl f (a ++ b) = appl (appl f a) b := by
  unfold appl
  rw [List.foldl_append]
structure DI (ks : List Int) (kvs : List (Key × V)) (f : Int → Option Int) : Prop where
  nd : (kvs.map (·.1)).Nodup
  inn : ∀ p ∈ kvs, ∃ k ∈ ks, p.1 = Sum.inl k
  val : ∀ k, valV kvs (Sum.inl k) = (f k).map V.int
theorem DI.nil {ks : List Int} : DI ks [] fun _ => none := ⟨List.nodup_nil, fun p m => (by cases m), fun k => rfl⟩
theorem valV_drop {k j : Key} : ∀ kvs : List (Key × V), valV (dropK kvs k) j = if j = k then none else valV kvs j
  | [] => by
    show valV [] j = _
    rw [valV_nil]
    split <;> rfl
  | p :: r => by
    by_cases e : p.1 = k
    · rw [dropK_pos e, valV_drop r]
      by_cases h : j = k
      · rw [if_pos h, if_pos h]
      · rw [if_neg h, if_neg h, valV_neg fun z => h (z.symm.trans e)]
    · rw [dropK_neg e]
      by_cases h : p.1 = j
      · rw [valV_pos h, valV_pos h, if_neg fun z => e (h.trans z)]
      · rw [valV_neg h, valV_neg h, valV_drop r]
theorem mem_putK {kvs : List (Key × V)} {k : Key} {v : V} {p : Key × V} (h : p ∈ putK kvs k v) : p.1 = k ∨ ∃ q ∈ kvs, q.1 = p.1 := by
  unfold putK at h
  split at h
  · obtain ⟨q, m, rfl⟩ := List.mem_map.mp h
    refine .inr ⟨q, m, ?_⟩
    split <;> rfl
  · rcases List.mem_append.mp h with h | h
    · exact .inr ⟨p, h, rfl⟩
    · rw [List.mem_singleton.mp h]
      exact .inl rfl
theorem putK_old {kvs : List (Key × V)} {k : Key} {v : V} (h : (valV kvs k).isSome = true) : (putK kvs k v).map (·.1) = kvs.map (·.1) := by
  unfold putK
  rw [if_pos (by rw [valV_any]; exact h), List.map_map]
  refine List.map_congr_left fun p _ => ?_
  show (if p.1 = k then (p.1, v) else p).1 = p.1
  split <;> rfl
section
variable {ks : List Int} {kvs : List (Key × V)} {f : Int → Option Int} {k : Int} {w : Int}
theorem DI.put (h : DI ks kvs f) (hk : k ∈ ks) : DI ks (putK kvs (.inl k) (.int w)) (fset f k (some w)) := by
  refine ⟨?_, fun p m => ?_, fun j => ?_⟩
  · cases e : valV kvs (.inl k) with
    | none => exact nd_putK _ h.nd e
    | some v => rw [putK_old (by rw [e]; rfl)]; exact h.nd
  · rcases mem_putK m with e | ⟨q, m, e⟩
    · exact ⟨k, hk, e⟩
    · obtain ⟨j, hj, e'⟩ := h.inn q m
      exact ⟨j, hj, e ▸ e'⟩
  · rw [valV_put, h.val]
    unfold fset
    by_cases e : j = k
    · rw [if_pos e, if_pos (by rw [e])]
      rfl
    · rw [if_neg e, if_neg fun z => e (Sum.inl.inj z)]
theorem DI.drop (h : DI ks kvs f) : DI ks (dropK kvs (.inl k)) (fset f k none) := by
  refine ⟨nd_dropK h.nd, fun p m => h.inn p (dropK_mem m), fun j => ?_⟩
  rw [valV_drop, h.val]
  unfold fset
  by_cases e : j = k
  · rw [if_pos e, if_pos (by rw [e])]
    rfl
  · rw [if_neg e, if_neg fun z => e (Sum.inl.inj z)]
theorem DI.gone (h : DI ks kvs f) (hk : f k = none) : DI ks kvs (fset f k none) := ⟨h.nd, h.inn, fun j => by
  rw [h.val]
  unfold fset
  by_cases e : j = k
  · rw [if_pos e, e, hk]
  · rw [if_neg e]⟩
end
theorem len_sub {α : Type} [DecidableEq α] : ∀ {l m : List α}, l.Nodup → (∀ x ∈ l, x ∈ m) → l.length ≤ m.length
  | [], _, _, _ => Nat.zero_le _
  | x :: l, m, hn, hs => by
    obtain ⟨h1, h2⟩ := List.nodup_cons.mp hn
    have hx : x ∈ m := hs x List.mem_cons_self
    have := len_sub (l := l) (m := m.erase x) h2 fun y hy => (List.mem_erase_of_ne (a := y) (b := x) fun (e : y = x) => h1 (e ▸ hy)).mpr (hs y (List.mem_cons_of_mem _ hy))
    rw [List.length_erase_of_mem hx] at this
    have hp := List.length_pos_of_mem hx
    rw [List.length_cons]
    omega
theorem inls : ∀ {l : List Key}, (∀ x ∈ l, ∃ k, x = Sum.inl k) → ∃ js : List Int, l = js.map Sum.inl
  | [], _ => ⟨[], rfl⟩
  | x :: l, h => by
    obtain ⟨k, rfl⟩ := h x List.mem_cons_self
    obtain ⟨js, rfl⟩ := inls fun y m => h y (List.mem_cons_of_mem _ m)
    exact ⟨k :: js, rfl⟩
theorem valV_memI {kvs : List (Key × V)} {k : Key} : k ∈ kvs.map (·.1) ↔ (valV kvs k).isSome = true := by
  rw [← valV_any, List.any_eq_true, List.mem_map]
  constructor
  · rintro ⟨p, m, e⟩
    exact ⟨p, m, decide_eq_true e⟩
  · rintro ⟨p, m, e⟩
    exact ⟨p, m, of_decide_eq_true e⟩
theorem DI.keys {ks : List Int} {kvs : List (Key × V)} {f : Int → Option Int} (h : DI ks kvs f) : ∃ js : List Int, kvs.map (·.1) = js.map Sum.inl ∧ js.Nodup ∧ (∀ k, k ∈ js ↔ (f k).isSome = true) ∧ js.length ≤ ks.length := by
  obtain ⟨js, e⟩ := inls (l := kvs.map (·.1)) fun x m => by
    obtain ⟨p, hp, rfl⟩ := List.mem_map.mp m
    obtain ⟨k, _, e⟩ := h.inn p hp
    exact ⟨k, e⟩
  have nd : js.Nodup := by
    have := h.nd
    rw [e] at this
    exact (List.pairwise_map.mp this).imp fun {a b} z e => z (congrArg _ e)
  have mem : ∀ k, k ∈ js ↔ (f k).isSome = true := fun k => by
    have := valV_memI (kvs := kvs) (k := .inl k)
    rw [e, h.val, Option.isSome_map] at this
    rw [← this, List.mem_map]
    constructor
    · exact fun m => ⟨k, m, rfl⟩
    · rintro ⟨j, m, z⟩
      cases z
      exact m
  refine ⟨js, e, nd, mem, len_sub nd fun x hx => ?_⟩
  have : (Sum.inl x : Key) ∈ kvs.map (·.1) := e ▸ List.mem_map.mpr ⟨x, hx, rfl⟩
  obtain ⟨p, hp, e'⟩ := List.mem_map.mp this
  obtain ⟨k, hk, e''⟩ := h.inn p hp
  cases (e'.symm.trans e'' : (Sum.inl x : Key) = Sum.inl k)
  exact hk
theorem DI.len {ks : List Int} {kvs : List (Key × V)} {f : Int → Option Int} (h : DI ks kvs f) : kvs.length ≤ ks.length := by
  obtain ⟨js, e, _, _, l⟩ := h.keys
  have := congrArg List.length e
  rw [List.length_map, List.length_map] at this
  omega
/-- the keys that have a worth, rising -/
def KeysOf (f : Int → Option Int) (js : List Int) : Prop := js.Pairwise (· < ·) ∧ ∀ k, k ∈ js ↔ (f k).isSome = true
theorem lt_of_le_nodup {js : List Int} (h : js.Pairwise (· ≤ ·)) (hn : js.Nodup) : js.Pairwise (· < ·) := by
  have : js.Pairwise fun a b => a ≤ b ∧ a ≠ b := List.Pairwise.and h hn
  exact this.imp fun {a b} z => by omega
/-- the rows of f -/
def rowsOf (f : Int → Option Int) (js : List Int) : List (Int × Int) := js.map fun k => (k, (f k).getD 0)
/-- what the rows make of nothing -/
def fRows (rs : List (Int × Int)) : Int → Option Int := appl (fun _ => none) (rs.map fun r => (r.1, some r.2))
end Tc
/-! changes, entries and logs as data; promises of what the program makes of them -/
namespace Tc
open PySem L2 Evl
def chD : PyData → Int × Option Int
  | .tuple [.str _, .int k] => (k, none)
  | .tuple [.str _, .int k, .int w] => (k, some w)
  | _ => (0, none)
def goodCh (ks : List Int) : PyData → Bool
  | .tuple [.str s, .int k] => decide (s = "drop") && decide (k ∈ ks)
  | .tuple [.str s, .int k, .int w] => decide (s = "put") && (decide (k ∈ ks) && decide (0 ≤ w ∧ w < 1000))
  | _ => false
def chsD : PyData → List PyData
  | .tuple [.str _, .tuple cs] => cs
  | _ => []
def goodEn (ks : List Int) : PyData → Bool
  | .tuple [.str s, .tuple cs] => decide (s = "group") && cs.all (goodCh ks)
  | .tuple [.str s, .int _, .int _] => !decide (s = "group") && PyData.strOk s
  | _ => false
def enD (d : PyData) : List (Int × Option Int) := (chsD d).map chD
def lgD (ds : List PyData) : List (Int × Option Int) := ds.flatMap enD
theorem lgD_app (a b : List PyData) : lgD (a ++ b) = lgD a ++ lgD b := List.flatMap_append
theorem lgD_snoc (a : List PyData) (d : PyData) : lgD (a ++ [d]) = lgD a ++ enD d := by
  rw [lgD_app]
  congr 1
  exact List.append_nil _
def pairD (r : Int × Int) : PyData := .tuple [.int r.1, .int r.2]
def rowsD (rs : List (Int × Int)) : PyData := .tuple (rs.map pairD)
section
variable {K : PySem.W.Frag} {H H' : Hp} {D : Addr} {kvs : List (Key × V)}
/-- all but the dict at D stays -/
def Bar (D : Addr) (H H' : Hp) : Prop := ∀ a o, a ≠ D → H a = some o → H' a = some o
theorem Bar.refl (D : Addr) (H : Hp) : Bar D H H := fun _ _ _ h => h
theorem Bar.trans {H1 H2 : Hp} (a : Bar D H H1) (b : Bar D H1 H2) : Bar D H H2 := fun x o n h => b x o n (a x o n h)
theorem Bar.ex (e : Ex H H') : Bar D H H' := fun x o _ h => e x o h
theorem Bar.put (e : Bar D H H') {o : HO} : Bar D H (upd H' D o) := fun x u n h => by
  rw [upd_ne n]
  exact e x u n h
theorem Bar.exOf {H0 : Hp} (e : Bar D H H') (h0 : Ex H0 H) (hD : H0 D = none) : Ex H0 H' := fun a o h => e a o (fun z => by
  subst z
  rw [hD] at h
  cases h) (h0 a o h)
theorem bar_rd {a : Addr} {u : HO} (hD : H D = some (.dK kvs)) (e : Bar D H H') (hu : ∀ kvs, u ≠ .dK kvs) (hf : ∀ o kvs', HO.frz o u ≠ .dK kvs') (h : Rd H a u) : Rd H' a u := by
  rcases h with h | ⟨o, h⟩
  · exact .inl (e a _ (fun z => by
      subst z
      rw [hD] at h
      exact hu _ (Option.some.inj h).symm) h)
  · exact .inr ⟨o, e a _ (fun z => by
      subst z
      rw [hD] at h
      cases h) h⟩
theorem bar_t {a : Addr} {xs : List V} (hD : H D = some (.dK kvs)) (e : Bar D H H') (h : SqT K H a xs) : SqT K H' a xs := by
  rcases h with h | h
  · exact .inl (bar_rd hD e (fun _ z => nomatch z) (fun _ _ z => nomatch z) h)
  · exact .inr h
theorem bar_l {a : Addr} {xs : List V} (hD : H D = some (.dK kvs)) (e : Bar D H H') (h : SqL K H a xs) : SqL K H' a xs := by
  rcases h with h | h
  · exact .inl (bar_rd hD e (fun _ z => nomatch z) (fun _ _ z => nomatch z) h)
  · exact .inr h
mutual
theorem dp_bar (hD : H D = some (.dK kvs)) (e : Bar D H H') : ∀ (d : PyData) (v : V), Dp K H v d → Dp K H' v d
  | _, _, .non => .non
  | _, _, .bl b => .bl b
  | _, _, .int i => .int i
  | _, _, .str x => .str x
  | _, _, .lst h r => .lst (bar_l hD e h) (dps_bar hD e _ _ r)
  | _, _, .tup h r => .tup (bar_t hD e h) (dps_bar hD e _ _ r)
theorem dps_bar (hD : H D = some (.dK kvs)) (e : Bar D H H') : ∀ (ds : List PyData) (vs : List V), DpAll K H vs ds → DpAll K H' vs ds
  | _, _, .nil => .nil
  | _, _, .cons h r => .cons (dp_bar hD e _ _ h) (dps_bar hD e _ _ r)
end
/-- a table told by the program: a tuple without a dict, of pairs -/
def TP (K : PySem.W.Frag) (H : Hp) (p : Addr) (rs : List (Int × Int)) : Prop := ∃ xs, PT H p xs ∧ DpAll K H xs (rs.map pairD)
theorem TP.same {p : Addr} {rs : List (Int × Int)} (h : TP K H p rs) (e : Same H H') : TP K H' p rs := let ⟨xs, a, b⟩ := h; ⟨xs, a.same e, dps_same e _ _ b⟩
theorem TP.dp {p : Addr} {rs : List (Int × Int)} (h : TP K H p rs) : Dp K H (.ref p) (rowsD rs) := let ⟨_, a, b⟩ := h; .tup a.st b
theorem pairs_dp : ∀ {rs : List (Int × Int)} {xs : List V}, DpAll K H xs (rs.map pairD) → ∃ ps : List Addr, xs = ps.map V.ref ∧ Paired (fun p (kv : Key × V) => SqT K H p [kV kv.1, kv.2]) ps (rs.map fun r => ((Sum.inl r.1 : Key), V.int r.2))
  | [], _, h => by
    cases h
    exact ⟨[], rfl, .nil⟩
  | r :: rs, xs, h => by
    rw [List.map_cons] at h
    cases h with
    | cons a t =>
      obtain ⟨ps, rfl, p⟩ := pairs_dp t
      unfold pairD at a
      cases a with
      | tup hs hh =>
        cases hh with
        | cons h1 t1 =>
          cases t1 with
          | cons h2 t2 =>
            cases t2
            cases h1
            cases h2
            exact ⟨_ :: ps, rfl, .cons hs p⟩
theorem merge_rows {ks : List Int} : ∀ (rs : List (Int × Int)) (kvs : List (Key × V)) (f : Int → Option Int), (∀ r ∈ rs, r.1 ∈ ks) → DI ks kvs f → DI ks (mergeK kvs (rs.map fun r => ((Sum.inl r.1 : Key), V.int r.2))) (appl f (rs.map fun r => (r.1, some r.2)))
  | [], _, _, _, h => h
  | r :: rs, kvs, f, hk, h => merge_rows rs (putK kvs (.inl r.1) (.int r.2)) (fset f r.1 (some r.2)) (fun r' m => hk r' (List.mem_cons_of_mem _ m)) (h.put (hk r List.mem_cons_self))
end
/-- the changes of an entry -/
def spChsOf (K : PySem.W.Frag) : Sp := fun vs H Q _ => ∃ (v : V) (d : PyData) (ks : List Int), vs = [v] ∧ Dp K H v d ∧ goodEn ks d = true ∧ ∀ (q : Addr) (us : List V) (H' : Hp), Ex H H' → SqT K H' q us → DpAll K H' us (chsD d) → Q (.ref q) H'
/-- a good log at l -/
structure LogAt (K : PySem.W.Frag) (H : Hp) (l : Addr) (ks : List Int) (ds : List PyData) : Prop where
  ex : ∃ us, SqL K H l us ∧ DpAll K H us ds
  good : ∀ d ∈ ds, goodEn ks d = true
theorem LogAt.same {K : PySem.W.Frag} {H H' : Hp} {l : Addr} {ks : List Int} {ds : List PyData} (h : LogAt K H l ks ds) (e : Same H H') : LogAt K H' l ks ds := ⟨let ⟨us, a, b⟩ := h.ex; ⟨us, Evl.ex_l e a, dps_same e _ _ b⟩, h.good⟩
/-- the entries from place lo up to place hi, done -/
def spCarry (K : PySem.W.Frag) : Sp := fun vs H Q _ => ∃ (D l : Addr) (ks : List Int) (kvs : List (Key × V)) (f : Int → Option Int) (ds : List PyData) (lo hi : Nat), vs = [.ref D, .ref l, .int (lo : Int), .int (hi : Int)] ∧ H D = some (.dK kvs) ∧ DI ks kvs f ∧ ks.length < 64 ∧ LogAt K H l ks ds ∧ lo ≤ hi ∧
  ∀ kvs' H', Bar D H H' → H' D = some (.dK kvs') → DI ks kvs' (appl f (lgD ((ds.drop lo).take (hi - lo)))) → Q .non H'
/-- a place that is one -/
def spPlace (K : PySem.W.Frag) : Sp := fun vs H Q _ => ∃ (l : Addr) (us : List V) (n : Nat), vs = [.ref l, .int (n : Int)] ∧ SqL K H l us ∧ n ≤ us.length ∧ ∀ H', Ex H H' → Q .non H'
/-- the keys told -/
def spChanged (K : PySem.W.Frag) : Sp := fun vs H Q _ => ∃ (l : Addr) (ks : List Int) (ds : List PyData) (lo hi : Nat), vs = [.ref l, .int (lo : Int), .int (hi : Int)] ∧ ks.length < 64 ∧ LogAt K H l ks ds ∧ lo ≤ hi ∧ hi ≤ ds.length ∧
  ∀ p (js : List Int) H', H p = none → Ex H H' → H' p = some (.lst (js.map V.int)) → js.Pairwise (· < ·) → (∀ k, k ∈ js ↔ ∃ c ∈ lgD ((ds.drop lo).take (hi - lo)), c.1 = k) → Q (.ref p) H'
end Tc
/-! tuples of leaves and tuples stay while a list is changed -/
namespace Tc
open PySem L2 Evl
def nl : Nat → PyData → Bool
  | _, .list _ => false
  | 0, .tuple _ => false
  | n + 1, .tuple ds => ds.all (nl n)
  | _, _ => true
section
variable {K : PySem.W.Frag} {H H' : Hp} {b : Addr} {bs : List V}
theorem lst_t {a : Addr} {xs : List V} (hb : H b = some (.lst bs)) (e : Bar b H H') (h : SqT K H a xs) : SqT K H' a xs := by
  rcases h with (h | ⟨o, h⟩) | h
  · exact .inl (.inl (e a _ (fun z => by
      subst z
      rw [hb] at h
      cases h) h))
  · exact .inl (.inr ⟨o, e a _ (fun z => by
      subst z
      rw [hb] at h
      cases h) h⟩)
  · exact .inr h
theorem lst_l {a : Addr} {xs : List V} (e : Bar b H H') (ha : a ≠ b) (h : SqL K H a xs) : SqL K H' a xs := by
  rcases h with (h | ⟨o, h⟩) | h
  · exact .inl (.inl (e a _ ha h))
  · exact .inl (.inr ⟨o, e a _ ha h⟩)
  · exact .inr h
theorem dps_each : ∀ {ds : List PyData} {vs : List V}, (∀ d ∈ ds, ∀ v, Dp K H v d → Dp K H' v d) → DpAll K H vs ds → DpAll K H' vs ds
  | _, _, _, .nil => .nil
  | _, _, f, .cons h t => .cons (f _ List.mem_cons_self _ h) (dps_each (fun d m => f d (List.mem_cons_of_mem _ m)) t)
theorem dp_nl (hb : H b = some (.lst bs)) (e : Bar b H H') : ∀ (n : Nat) (d : PyData) (v : V), nl n d = true → Dp K H v d → Dp K H' v d
  | 0, d, v, g, h => by
    cases h with
    | non => exact .non
    | bl b => exact .bl b
    | int i => exact .int i
    | str x => exact .str x
    | lst => cases g
    | tup => cases g
  | n + 1, d, v, g, h => by
    cases h with
    | non => exact .non
    | bl b => exact .bl b
    | int i => exact .int i
    | str x => exact .str x
    | lst => cases g
    | tup hs r => exact .tup (lst_t hb e hs) (dps_each (fun d m v => dp_nl hb e n d v (List.all_eq_true.mp g d m)) r)
theorem nl_rows (rs : List (Int × Int)) : nl 2 (rowsD rs) = true := by
  show (rs.map pairD).all (nl 1) = true
  rw [List.all_eq_true]
  intro d m
  obtain ⟨r, _, rfl⟩ := List.mem_map.mp m
  rfl
theorem nl_ch {ks : List Int} {d : PyData} (h : goodCh ks d = true) : nl 1 d = true := by
  unfold goodCh at h
  split at h
  · rfl
  · rfl
  · cases h
theorem nl_en {ks : List Int} {d : PyData} (h : goodEn ks d = true) : nl 3 d = true := by
  unfold goodEn at h
  split at h
  · rename_i s cs
    rw [Bool.and_eq_true, List.all_eq_true] at h
    show (nl 2 (.str s) && (nl 2 (.tuple cs) && true)) = true
    rw [show nl 2 (.tuple cs) = true from List.all_eq_true.mpr fun d m => nl_ch (h.2 d m)]
    rfl
  · rfl
  · cases h
theorem Fr.bar (f : Fr b H H') : Bar b H H' := fun a o n h => f.at h n
theorem LogAt.bar {l : Addr} {ks : List Int} {ds : List PyData} (h : LogAt K H l ks ds) (hb : H b = some (.lst bs)) (e : Bar b H H') (hl : l ≠ b) : LogAt K H' l ks ds :=
  ⟨let ⟨us, x, y⟩ := h.ex; ⟨us, lst_l e hl x, dps_each (fun d m v => dp_nl hb e 3 d v (nl_en (h.good d m))) y⟩, h.good⟩
theorem TP.bar {p : Addr} {rs : List (Int × Int)} (h : TP K H p rs) (hb : H b = some (.lst bs)) (e : Bar b H H') : TP K H' p rs := by
  obtain ⟨xs, ⟨o, a, d⟩, r⟩ := h
  exact ⟨xs, ⟨o, e p _ (fun z => by
    subst z
    rw [hb] at a
    cases a) a, d⟩, dps_each (fun d m v => dp_nl hb e 1 d v (by
      obtain ⟨r, _, rfl⟩ := List.mem_map.mp m
      rfl)) r⟩
theorem Bag.lst (h : Bag H b) : ∃ bs, H b = some (.lst bs) := let ⟨_, _, e, _⟩ := h; ⟨_, e⟩
end
/-- rows of a table drawn -/
def goodRow (ks : List Int) : PyData → Bool
  | .tuple [.int k, .int w] => decide (k ∈ ks) && decide (0 ≤ w ∧ w < 1000)
  | _ => false
theorem good_rows {ks : List Int} : ∀ {ds : List PyData}, (∀ d ∈ ds, goodRow ks d = true) → ∃ rs : List (Int × Int), ds = rs.map pairD ∧ (∀ r ∈ rs, r.1 ∈ ks) ∧ ∀ r ∈ rs, 0 ≤ r.2 ∧ r.2 < 1000
  | [], _ => ⟨[], rfl, fun r m => (by cases m), fun r m => by cases m⟩
  | d :: ds, h => by
    obtain ⟨rs, e, hr, hw⟩ := good_rows fun d' m => h d' (List.mem_cons_of_mem _ m)
    have hd := h d List.mem_cons_self
    unfold goodRow at hd
    split at hd
    · rename_i k w
      rw [Bool.and_eq_true] at hd
      refine ⟨(k, w) :: rs, by rw [e]; rfl, fun r m => ?_, fun r m => ?_⟩
      · rcases List.mem_cons.mp m with z | z
        · rw [z]
          exact of_decide_eq_true hd.1
        · exact hr r z
      · rcases List.mem_cons.mp m with z | z
        · rw [z]
          exact of_decide_eq_true hd.2
        · exact hw r z
    · cases hd
def spKeysQ : Sp := fun vs H Q _ => ∃ b : Addr, vs = [.ref b] ∧ Bag H b ∧ ∀ l (ks : List Int) H', Fr b H H' → KeysAt b H' l ks → ks.length < 64 → Q (.ref l) H'
theorem gq_drop {ks : List Int} {k : Int} (h : k ∈ ks) : goodCh ks (.tuple [.str "drop", .int k]) = true := by
  show (decide ((Str.ofString "drop") = "drop") && decide (k ∈ ks)) = true
  rw [decide_eq_true h]
  decide
theorem gq_put {ks : List Int} {k w : Int} (h : k ∈ ks) (hw : 0 ≤ w ∧ w < 1000) : goodCh ks (.tuple [.str "put", .int k, .int w]) = true := by
  show (decide ((Str.ofString "put") = "put") && (decide (k ∈ ks) && decide (0 ≤ w ∧ w < 1000))) = true
  rw [decide_eq_true h, decide_eq_true hw]
  decide
theorem gq_mark {ks : List Int} {s : Str} {i j : Int} (hs : s = "low" ∨ s = "high") : goodEn ks (.tuple [.str s, .int i, .int j]) = true := by
  show (!decide (s = "group") && PyData.strOk s) = true
  rcases hs with rfl | rfl <;> decide +kernel
theorem gq_group {ks : List Int} {ds : List PyData} (h : ∀ d ∈ ds, goodCh ks d = true) : goodEn ks (.tuple [.str "group", .tuple ds]) = true := by
  show (decide ((Str.ofString "group") = "group") && ds.all (goodCh ks)) = true
  rw [List.all_eq_true.mpr h]
  decide
end Tc
namespace Tc
open PySem L2 Evl
/-- no tuple stands at b -/
def NT (H : Hp) (b : Addr) : Prop := (∀ xs, H b ≠ some (.tup xs)) ∧ ∀ o u, H b ≠ some (.frz o u)
section
variable {K : PySem.W.Frag} {H H' : Hp} {b : Addr}
theorem NT.set {w : World} {S : Int → Bool} {n : Nat} (h : H b = some (SetO w b S n)) : NT H b := by
  refine ⟨fun xs e => ?_, fun o u e => ?_⟩ <;> · rw [h] at e
                                                 cases e
theorem nt_t {a : Addr} {xs : List V} (hb : NT H b) (e : Bar b H H') (h : SqT K H a xs) : SqT K H' a xs := by
  rcases h with (h | ⟨o, h⟩) | h
  · exact .inl (.inl (e a _ (fun z => hb.1 xs (z ▸ h)) h))
  · exact .inl (.inr ⟨o, e a _ (fun z => hb.2 o _ (z ▸ h)) h⟩)
  · exact .inr h
theorem dp_nt (hb : NT H b) (e : Bar b H H') : ∀ (n : Nat) (d : PyData) (v : V), nl n d = true → Dp K H v d → Dp K H' v d
  | 0, d, v, g, h => by
    cases h with
    | non => exact .non
    | bl b => exact .bl b
    | int i => exact .int i
    | str x => exact .str x
    | lst => cases g
    | tup => cases g
  | n + 1, d, v, g, h => by
    cases h with
    | non => exact .non
    | bl b => exact .bl b
    | int i => exact .int i
    | str x => exact .str x
    | lst => cases g
    | tup hs r => exact .tup (nt_t hb e hs) (dps_each (fun d m v => dp_nt hb e n d v (List.all_eq_true.mp g d m)) r)
/-- the turns of a clause, over whatever gives n items one by one and changes nothing by it -/
theorem sc_turns {J : It} {n : Nat} {H0 : Hp} {Z : Hp → Prop} {B : V → Hp → (Hp → Prop) → Prop} (Pv : Nat → Hp → Prop) (R : Nat → V → Prop) (h0 : Pv 0 H0) (go : ∀ i H, i < n → Pv i H → J.go i H ∧ ∀ x H', J.yld i H x H' → H' = H ∧ R i x) (stop : ∀ H, Pv n H → J.stop n H)
    (hs : ∀ i x H, R i x → Pv i H → B x H (Pv (i + 1))) (hd : ∀ H, Pv n H → Z H) :
    ∃ W : Nat → Nat → Hp → Prop, (∃ m, W 0 m H0) ∧ ∀ i m H, W i m H → (J.stop i H ∧ Z H) ∨ (J.go i H ∧ ∃ Nx : Hp → Prop, (∀ H', Nx H' → ∃ m', m' < m ∧ W (i + 1) m' H') ∧ ∀ x H', J.yld i H x H' → B x H' Nx) := by
  refine ⟨fun i m H => i + m = n ∧ Pv i H, ⟨n, Nat.zero_add n, h0⟩, fun i m H ⟨e, p⟩ => ?_⟩
  cases m with
  | zero =>
    obtain rfl : i = n := e
    exact .inl ⟨stop H p, hd H p⟩
  | succ m =>
    have ⟨g, y⟩ := go i H (by omega) p
    refine .inr ⟨g, Pv (i + 1), fun H' p' => ⟨m, Nat.lt_succ_self m, by omega, p'⟩, fun x H' yx => ?_⟩
    obtain ⟨rfl, r⟩ := y x H' yx
    exact hs i x _ r p
theorem sc_list {a : Addr} {xs : List V} {H0 : Hp} {Z : Hp → Prop} {B : V → Hp → (Hp → Prop) → Prop} (Pv : Nat → Hp → Prop) (h0 : Pv 0 H0) (hl : ∀ i H, i ≤ xs.length → Pv i H → SqL K H a xs) (hs : ∀ i x H, xs[i]? = some x → Pv i H → B x H (Pv (i + 1))) (hd : ∀ H, Pv xs.length H → Z H) :
    ∃ W : Nat → Nat → Hp → Prop, (∃ m, W 0 m H0) ∧ ∀ i m H, W i m H → ((Itl K a).stop i H ∧ Z H) ∨ ((Itl K a).go i H ∧ ∃ Nx : Hp → Prop, (∀ H', Nx H' → ∃ m', m' < m ∧ W (i + 1) m' H') ∧ ∀ x H', (Itl K a).yld i H x H' → B x H' Nx) :=
  sc_turns Pv (fun i x => xs[i]? = some x) h0 (fun i H lt p => ⟨⟨xs, xs[i], hl i H (Nat.le_of_lt lt) p, List.getElem?_eq_getElem lt⟩, fun x H' y => ⟨y.1, y.2 xs (hl i H (Nat.le_of_lt lt) p)⟩⟩) (fun H p => ⟨xs, hl _ H (Nat.le_refl _) p, Nat.le_refl _⟩) hs hd
theorem sc_tup {a : Addr} {xs : List V} {H0 : Hp} {Z : Hp → Prop} {B : V → Hp → (Hp → Prop) → Prop} (Pv : Nat → Hp → Prop) (h0 : Pv 0 H0) (hl : ∀ i H, i ≤ xs.length → Pv i H → SqT K H a xs) (hs : ∀ i x H, xs[i]? = some x → Pv i H → B x H (Pv (i + 1))) (hd : ∀ H, Pv xs.length H → Z H) :
    ∃ W : Nat → Nat → Hp → Prop, (∃ m, W 0 m H0) ∧ ∀ i m H, W i m H → ((Itt K a).stop i H ∧ Z H) ∨ ((Itt K a).go i H ∧ ∃ Nx : Hp → Prop, (∀ H', Nx H' → ∃ m', m' < m ∧ W (i + 1) m' H') ∧ ∀ x H', (Itt K a).yld i H x H' → B x H' Nx) :=
  sc_turns Pv (fun i x => xs[i]? = some x) h0 (fun i H lt p => ⟨⟨xs, xs[i], hl i H (Nat.le_of_lt lt) p, List.getElem?_eq_getElem lt⟩, fun x H' y => ⟨y.1, y.2 xs (hl i H (Nat.le_of_lt lt) p)⟩⟩) (fun H p => ⟨xs, hl _ H (Nat.le_refl _) p, Nat.le_refl _⟩) hs hd
end
/-- a set that holds the ints of l, each once -/
def Has (w : World) (D : Addr) (H : Hp) (l : List Int) : Prop := H D = some (SetO w D (fun j => decide (j ∈ l)) l.length) ∧ l.Nodup
theorem Has.more {w : World} {D : Addr} {H : Hp} {l : List Int} (h : Has w D H l) (k : Int) : ∃ l', (∀ j, j ∈ l' ↔ j ∈ l ∨ j = k) ∧ ∀ H', Has w D (upd H' D (setMore w D (fun j => decide (j ∈ l)) l.length k)) l' := by
  by_cases m : k ∈ l
  · refine ⟨l, fun j => ⟨.inl, fun z => z.elim id fun e => e ▸ m⟩, fun H' => ⟨?_, h.2⟩⟩
    rw [upd_same]
    have e1 : (fun j => decide (j ∈ l) || decide (j = k)) = fun j => decide (j ∈ l) := by
      funext j
      by_cases z : j = k
      · subst z
        simp [m]
      · simp [z]
    unfold setMore
    rw [e1, if_pos (decide_eq_true m)]
  · refine ⟨k :: l, fun j => by rw [List.mem_cons]; exact Or.comm, fun H' => ⟨?_, List.nodup_cons.mpr ⟨m, h.2⟩⟩⟩
    rw [upd_same]
    have e1 : (fun j => decide (j ∈ l) || decide (j = k)) = fun j => decide (j ∈ k :: l) := by
      funext j
      rw [Bool.eq_iff_iff, Bool.or_eq_true, decide_eq_true_eq, decide_eq_true_eq, decide_eq_true_eq, List.mem_cons]
      exact Or.comm
    unfold setMore
    rw [e1, if_neg (by simp [m]), List.length_cons]
end Tc
/-! enumerate(tuple), enumerate(tuple, start=k) -/
namespace Tc
open PySem PySem.Spec PyProof.Rows L2
/-- how the counter at e and the tuple's iterator at it stand -/
def Cnt (a e it : Addr) (k : Int) (i : Nat) (h : Heap) : Prop := (∃ old, IsEnum h e it (k + (i : Int)) old) ∧ h.IsTupleIter it a i ∧ e ≠ it
theorem Cnt.apart {a e it : Addr} {k : Int} {i : Nat} {h : Heap} {items : Array Value} (c : Cnt a e it k i h) (t : IsTup h a items) : a ≠ it ∧ e ∉ [it, a] := by
  obtain ⟨⟨old, he⟩, ⟨o, ho, hc, _⟩, ne⟩ := c
  obtain ⟨p, hp, pc, _⟩ := t
  refine ⟨fun z => ?_, fun m => ?_⟩
  · subst z
    cases hp.symm.trans ho
    rw [pc] at hc
    exact absurd hc (by decide)
  · rcases List.mem_cons.mp m with z | z
    · exact ne z
    · obtain rfl := List.mem_singleton.mp z
      cases hp.symm.trans he
      exact absurd (show Value.type "enumerate" = Value.type "tuple" from pc) (by decide)
section
variable {M : Model} {A : Around} {E : Value → Shared → Prop} {s : Shared} {env : Env}
/-- a built-in class called with one thing and more by their names -/
theorem type_kw {pos : Pos} {T : String} {x : Expr} {kws : List Keyword} {Q : Value → Shared → Prop} (one : backTo pos (starEach [x] env) = (false, eval x env) :: backTo pos (starEach [] env)) (named : (backToKw pos (keywordEach kws env)).all (·.1.isSome) = true) (no : (backToKw pos (keywordEach kws env)).any (·.1.isNone) = false)
    (plain : (backTo pos (starEach [x] env)).any (·.1) = false) (h : wpAny M A (spliced (backTo pos (starEach [x] env))) (fun vs s1 => wpAny M A (evalAll ((backToKw pos (keywordEach kws env)).map (·.2))) (fun ws s2 => wpAny M A (call (.type T) vs (((backToKw pos (keywordEach kws env)).filterMap (·.1)).zip ws)) Q E s2) E s1) E s) :
    wpAny M A (callWith pos (.type T) [] (backTo pos (starEach [x] env)) (backToKw pos (keywordEach kws env))) Q E s := by
  have args : wpAny M A (evalArgs (.type T) true (backTo pos (starEach [x] env)) (backToKw pos (keywordEach kws env))) (fun a s1 => wpAny M A (call (.type T) a.pos a.kw) Q E s1) E s := by
    rw [one] at h ⊢
    exact evalArgs_kwB named h
  unfold callWith
  refine wpAny_bind (wpAny_holding (wpAny_mono args (fun a s1 h1 => wpAny_bind (wpAny_standAt ?_)) fun _ _ z => z))
  simp only [plain, no, Bool.or_false]
  refine wpAny_bind (wpAny_pure ?_)
  exact wpAny_bind (wpAny_mono (show wpAny M A (call (.type T) ([] ++ a.pos) a.kw) Q E s1 from h1) (fun r s2 done => wpAny_bind (wpAny_holding (wpAny_point (wpAny_pure done)))) fun _ _ z => z)
end
end Tc
/-! enumerate(tuple) from 0 -/
namespace Tc
open PySem PySem.Spec PyProof.Rows L2
end Tc
/-! sorted(tuple of ints) -/
namespace Tc
open PySem PySem.Spec PyProof.Rows L2
end Tc
/-! sorted(dict of int keys), of any number -/
namespace Tc
open PySem PySem.Spec PyProof.Rows L2
end Tc
/-! an exception's own __init__ that says super().__init__(..) -/
namespace Tc
open PySem PySem.Spec PyProof.Rows L2
end Tc
namespace Tc
open PySem PySem.Spec PyProof.Rows L2
end Tc
namespace Tc
open PySem PySem.Spec PyProof.Rows L2 NdefX
end Tc
/-! exceptions whose context is None: made, raised, let through -/
namespace Tc
open PySem PySem.Spec PyProof.Rows L2
end Tc
/-! defs called in an except suite, what is known of the exception handed to them -/
namespace Tc
open PySem PySem.Spec PyProof.Rows L2 L2H
end Tc
/-! a list comprehension in a def that an except suite calls -/
namespace Tc
open PySem PySem.Spec PyProof.Rows L2 L2H
end Tc
/-! a, b = x, y in an except suite -/
namespace Tc
open PySem PySem.Spec PyProof.Rows L2 L2H HotX
end Tc
/-! exceptions of the text: what is known of a class; raised, told apart by their kinds -/
namespace Tc
open PySem L2 L2H PyProof.Rows Evl NdefX
/-! by looking -/
end Tc
/-! data of a known depth: such data can be compared, and are like themselves -/
namespace Tc
open PySem L2 PyProof.Rows Evl
def sd : Nat → PyData → Bool
  | _, .none => true
  | _, .bool _ => true
  | _, .int _ => true
  | _, .str s => PyData.strOk s
  | n + 1, .list xs => xs.all (sd n)
  | n + 1, .tuple xs => xs.all (sd n)
  | _, _ => false
theorem sd_ok : ∀ (n : Nat) (d : PyData), sd n d = true → PyData.canLay0 d = true ∧ d.depth ≤ n ∧ PyData.eqv d d = true := by
  intro n
  induction n with
  | zero =>
    intro d h
    cases d with
    | none => exact ⟨rfl, Nat.le_refl _, rfl⟩
    | bool b => exact ⟨rfl, Nat.le_refl _, by simp [PyData.eqv]⟩
    | int i => exact ⟨rfl, Nat.le_refl _, by simp [PyData.eqv]⟩
    | str s => exact ⟨h, Nat.le_refl _, by simp [PyData.eqv]⟩
    | list xs => cases h
    | tuple xs => cases h
    | dict xs => cases h
  | succ n ih =>
    have all : ∀ xs : List PyData, xs.all (sd n) = true → PyData.canLayAll0 xs = true ∧ PyData.depthAll xs ≤ n ∧ PyData.eqvAll xs xs = true := by
      intro xs
      induction xs with
      | nil => exact fun _ => ⟨rfl, Nat.zero_le _, rfl⟩
      | cons x xs ihx =>
        intro h
        rw [List.all_cons, Bool.and_eq_true] at h
        obtain ⟨a1, a2, a3⟩ := ih x h.1
        obtain ⟨b1, b2, b3⟩ := ihx h.2
        rw [PyData.canLayAll0, PyData.depthAll, PyData.eqvAll, a1, b1, a3, b3]
        exact ⟨rfl, Nat.max_le.mpr ⟨a2, b2⟩, rfl⟩
    intro d h
    cases d with
    | none => exact ⟨rfl, Nat.zero_le _, rfl⟩
    | bool b => exact ⟨rfl, Nat.zero_le _, by simp [PyData.eqv]⟩
    | int i => exact ⟨rfl, Nat.zero_le _, by simp [PyData.eqv]⟩
    | str s => exact ⟨h, Nat.zero_le _, by simp [PyData.eqv]⟩
    | list xs =>
      obtain ⟨a1, a2, a3⟩ := all xs h
      rw [PyData.canLay0, PyData.depth, PyData.eqv]
      exact ⟨a1, by omega, a3⟩
    | tuple xs =>
      obtain ⟨a1, a2, a3⟩ := all xs h
      rw [PyData.canLay0, PyData.depth, PyData.eqv]
      exact ⟨a1, by omega, a3⟩
    | dict xs => cases h
theorem sd_sh {n : Nat} {d : PyData} (h : sd n d = true) (hn : n ≤ 64) : SeqAt.shaped d = true := by
  obtain ⟨a, b, _⟩ := sd_ok n d h
  unfold SeqAt.shaped
  rw [a, decide_eq_true (Nat.le_trans b hn)]
  rfl
theorem sd_eq {n : Nat} {d : PyData} (h : sd n d = true) : PyData.eqv d d = true := (sd_ok n d h).2.2
theorem sd_rows (rs : List (Int × Int)) : sd 2 (rowsD rs) = true := List.all_eq_true.mpr fun x hx => by
  obtain ⟨i, _, rfl⟩ := List.mem_map.mp hx
  rfl
end Tc
/-! len(x) of an object of the program's own, by its __len__ -/
namespace Tc
open PySem PySem.Spec PyProof.Rows L2
end Tc
/-! a field as a target among others: x.f, y = .. -/
namespace Tc
open PySem PySem.Spec PyProof.Rows L2
end Tc
/-! d.update(d2) -/
namespace Tc
open PySem PySem.Spec PyProof.Rows L2
end Tc
/-! a tuple that is written, known to have no dict of its own -/
namespace Tc
open PySem PySem.Spec PyProof.Rows L2
end Tc
/-! defs with names behind a star that may let an exception out; a part of a tuple that has no dict -/
namespace Tc
open PySem PySem.Spec PyProof.Rows L2
end Tc
/-! methods that may let an exception out; a caught exception's fields, its kind among several, in a def that an except suite calls -/
namespace Tc
open PySem PySem.Spec PyProof.Rows L2 L2H
end Tc
/-! an exception of the text without an __init__ of its own; an own class whose __init__ may let an exception out -/
namespace Tc
open PySem PySem.Spec PyProof.Rows L2 L2H
end Tc
/-! methods that may let an exception out: without a thing handed in, with names behind a star; a class made of nothing -/
namespace Tc
open PySem PySem.Spec PyProof.Rows L2 L2H
end Tc
/-! an object while its fields are laid -/
namespace Tc
open PySem L2 Evl
/-- the object at p on its way: what stood at H0 stays, what came is told in nw -/
structure Ini (C dx p : Addr) (H0 : Hp) (fs : List (Str × V)) (nw : List (Addr × HO)) (H : Hp) : Prop where
  ob : H p = some (.ins C dx fs)
  bb : ∀ a o, a ≠ p → H0 a = some o → H a = some o
  fr : ∀ a, H a = none → H0 a = none
  nws : ∀ q ∈ nw, H q.1 = some q.2 ∧ H0 q.1 = none ∧ q.1 ≠ p
  nd : (nw.map (·.1)).Nodup
section
variable {C dx p : Addr} {H0 H H' : Hp} {fs : List (Str × V)} {nw : List (Addr × HO)}
theorem Ini.start (h : H0 p = some (.ins C dx fs)) : Ini C dx p H0 fs [] H0 := ⟨h, fun _ _ _ z => z, fun _ z => z, fun q m => (by cases m), List.nodup_nil⟩
theorem Ini.ex (I : Ini C dx p H0 fs nw H) (x : Ex H H') : Ini C dx p H0 fs nw H' := ⟨x _ _ I.ob, fun a o n h => x _ _ (I.bb a o n h), fun a h => I.fr a (fresh_back x h), fun q m => ⟨x _ _ (I.nws q m).1, (I.nws q m).2⟩, I.nd⟩
theorem Ini.fld (I : Ini C dx p H0 fs nw H) (gs : List (Str × V)) : Ini C dx p H0 gs nw (upd H p (.ins C dx gs)) := by
  refine ⟨upd_same, fun a o n h => ?_, fun a h => ?_, fun q m => ?_, I.nd⟩
  · rw [upd_ne n]
    exact I.bb a o n h
  · have n : a ≠ p := fun z => by
      rw [z, upd_same] at h
      cases h
    rw [upd_ne n] at h
    exact I.fr a h
  · obtain ⟨h1, h2, h3⟩ := I.nws q m
    exact ⟨by rw [upd_ne h3]; exact h1, h2, h3⟩
theorem Ini.new {d : Addr} {o : HO} (I : Ini C dx p H0 fs nw H) (hd : H d = none) (x : Ex H H') (h : H' d = some o) : Ini C dx p H0 fs ((d, o) :: nw) H' := by
  have J := I.ex x
  refine ⟨J.ob, J.bb, J.fr, fun q m => ?_, ?_⟩
  · rcases List.mem_cons.mp m with rfl | m
    · refine ⟨h, I.fr d hd, fun z => ?_⟩
      have := I.ob
      rw [← z, hd] at this
      cases this
    · exact J.nws q m
  · rw [List.map_cons]
    refine List.nodup_cons.mpr ⟨fun m => ?_, I.nd⟩
    obtain ⟨q, mq, e⟩ := List.mem_map.mp m
    have := (I.nws q mq).1
    rw [e, hd] at this
    cases this
variable {K : PySem.W.Frag} {D : Ends} {σ : L2.St} {te : TE} {v : V} {f : Str} {i : Nat}
/-- self.f = a value -/
theorem ini_c (I : Ini C dx p H0 fs nw H) (hv : Ev te σ H v) (hi : σ[i]? = some (some (.ref p))) (c : Cls K C) (na : NoAttr K C f) (hl : fs.length < 1000) (k : ∀ H', Ini C dx p H0 (putF f v fs) nw H' → D.nx σ H') : sFld K (tVar i) te f D σ H :=
  hv H (Ex.refl H) _ fun H1 x1 => ⟨.ref p, hi, p, C, dx, fs, rfl, x1 _ _ I.ob, c, na, hl, k _ ((I.ex x1).fld _)⟩
/-- self.f = a new thing -/
theorem ini_g {o : HO} (I : Ini C dx p H0 fs nw H) (hv : ∀ Q : VK, (∀ d H1, H d = none → Ex H H1 → H1 d = some o → Q (.ref d) H1) → te σ H Q) (hi : σ[i]? = some (some (.ref p))) (c : Cls K C) (na : NoAttr K C f) (hl : fs.length < 1000) (k : ∀ d H', Ini C dx p H0 (putF f (.ref d) fs) ((d, o) :: nw) H' → D.nx σ H') : sFld K (tVar i) te f D σ H :=
  hv _ fun d H1 hd x1 h1 => ⟨.ref p, hi, p, C, dx, fs, rfl, x1 _ _ I.ob, c, na, hl, k d _ ((I.new hd x1 h1).fld _)⟩
theorem new_d {Q : VK} {σ : L2.St} {H : Hp} (q : ∀ d H1, H d = none → Ex H H1 → H1 d = some (.dK []) → Q (.ref d) H1) : tDNewK σ H Q := fun d hd => q d _ hd (Ex.new hd) upd_same
end
theorem putF_le {f : Str} {v : V} : ∀ {fs : List (Str × V)} {n : Nat}, fs.length ≤ n → (putF f v fs).length ≤ n + 1
  | [], n, _ => by show 1 ≤ n + 1; omega
  | (g, x) :: r, n, h => by
    show (if g = f then _ else _ : List (Str × V)).length ≤ n + 1
    split
    · rw [List.length_cons] at h ⊢
      omega
    · rw [List.length_cons] at h ⊢
      cases n with
      | zero => omega
      | succ n =>
        have := putF_le (f := f) (v := v) (fs := r) (n := n) (by omega)
        omega
end Tc
/-! a house: its fields and what they hold -/
namespace Tc
open PySem L2 Evl
def hfl (dW dK : Addr) (fk lg bg : Int) (dL dR : Addr) : List (Str × V) := [("worths", .ref dW), ("kept", .ref dK), ("first_kept", .int fk), ("lives_given", .int lg), ("begun", .int bg), ("living", .ref dL), ("running", .ref dR)]
/-- a house at p -/
structure HsAt (C : Addr) (H : Hp) (p dW dK dL dR : Addr) (kvs : List (Key × V)) (kept : List V) (fk lg bg : Int) (liv run : List (Key × V)) : Prop where
  ob : ∃ dx, H p = some (.ins C dx (hfl dW dK fk lg bg dL dR))
  wo : H dW = some (.dK kvs)
  ke : H dK = some (.lst kept)
  li : H dL = some (.dK liv)
  ru : H dR = some (.dK run)
  n1 : dW ≠ dL
  n2 : dW ≠ dR
  n3 : dL ≠ dR
section
variable {C : Addr} {H H' : Hp} {p dW dK dL dR : Addr} {kvs : List (Key × V)} {kept : List V} {fk lg bg : Int} {liv run : List (Key × V)}
theorem HsAt.ex (S : HsAt C H p dW dK dL dR kvs kept fk lg bg liv run) (x : Ex H H') : HsAt C H' p dW dK dL dR kvs kept fk lg bg liv run :=
  ⟨let ⟨dx, h⟩ := S.ob; ⟨dx, x _ _ h⟩, x _ _ S.wo, x _ _ S.ke, x _ _ S.li, x _ _ S.ru, S.n1, S.n2, S.n3⟩
end
end Tc
/-! tuples stay -/
namespace Tc
open PySem L2 Evl
def Kt (H H' : Hp) : Prop := ∀ a u, (∃ xs, u = .tup xs ∨ ∃ o, u = .frz o (.tup xs)) → H a = some u → H' a = some u
theorem Kt.ex {H H' : Hp} (x : Ex H H') : Kt H H' := fun a u _ h => x a u h
theorem Kt.trans {H H1 H2 : Hp} (x : Kt H H1) (y : Kt H1 H2) : Kt H H2 := fun a u k h => y a u k (x a u k h)
section
variable {K : PySem.W.Frag} {H H' : Hp}
theorem Kt.t {a : Addr} {xs : List V} (e : Kt H H') (h : SqT K H a xs) : SqT K H' a xs := by
  rcases h with (h | ⟨o, h⟩) | h
  · exact .inl (.inl (e a _ ⟨xs, .inl rfl⟩ h))
  · exact .inl (.inr ⟨o, e a _ ⟨xs, .inr ⟨o, rfl⟩⟩ h⟩)
  · exact .inr h
theorem Kt.dp (e : Kt H H') : ∀ (n : Nat) (d : PyData) (v : V), nl n d = true → Dp K H v d → Dp K H' v d
  | 0, d, v, g, h => by
    cases h with
    | non => exact .non
    | bl b => exact .bl b
    | int i => exact .int i
    | str x => exact .str x
    | lst => cases g
    | tup => cases g
  | n + 1, d, v, g, h => by
    cases h with
    | non => exact .non
    | bl b => exact .bl b
    | int i => exact .int i
    | str x => exact .str x
    | lst => cases g
    | tup hs r => exact .tup (e.t hs) (dps_each (fun d m v => Kt.dp e n d v (List.all_eq_true.mp g d m)) r)
theorem Kt.dps (e : Kt H H') {n : Nat} {ds : List PyData} {vs : List V} (g : ∀ d ∈ ds, nl n d = true) (h : DpAll K H vs ds) : DpAll K H' vs ds := dps_each (fun d m v => e.dp n d v (g d m)) h
end
theorem Kt.fr {b : Addr} {H H' : Hp} (hB : Bag H b) (f : Fr b H H') : Kt H H' := fun a u k h => f.at h fun z => by
  obtain ⟨x, y, hb, _⟩ := hB
  rw [z, hb] at h
  obtain ⟨xs, rfl | ⟨o, rfl⟩⟩ := k <;> cases h
theorem Kt.barL {e : Addr} {H H' : Hp} {bs : List V} (hb : H e = some (.lst bs)) (x : Bar e H H') : Kt H H' := fun a u k h => x a u (fun z => by
  subst z
  rw [hb] at h
  obtain ⟨xs, rfl | ⟨o, rfl⟩⟩ := k <;> cases h) h
theorem Kt.barD {e : Addr} {H H' : Hp} {kvs : List (Key × V)} (hb : H e = some (.dK kvs)) (x : Bar e H H') : Kt H H' := fun a u k h => x a u (fun z => by
  subst z
  rw [hb] at h
  obtain ⟨xs, rfl | ⟨o, rfl⟩⟩ := k <;> cases h) h
/-- all but what is no tuple -/
theorem Kt.but {H H' : Hp} (P : Addr → Prop) (h : ∀ a, P a → ∃ o, H a = some o ∧ (∀ xs, o ≠ .tup xs) ∧ ∀ o' xs, o ≠ .frz o' (.tup xs)) (e : ∀ a o, ¬ P a → H a = some o → H' a = some o) : Kt H H' := fun a u k ha => by
  refine e a u (fun z => ?_) ha
  obtain ⟨o, ho, n1, n2⟩ := h a z
  rw [ha] at ho
  obtain ⟨xs, rfl | ⟨o', rfl⟩⟩ := k
  · exact n1 xs (Option.some.inj ho).symm
  · exact n2 o' xs (Option.some.inj ho).symm
section
variable {C : Addr} {H H' : Hp} {p dW dK dL dR : Addr} {kvs : List (Key × V)} {kept : List V} {fk lg bg : Int} {liv run : List (Key × V)}
theorem HsAt.kt (S : HsAt C H p dW dK dL dR kvs kept fk lg bg liv run) (e : ∀ a o, a ≠ p → a ≠ dW → a ≠ dK → a ≠ dL → a ≠ dR → H a = some o → H' a = some o) : Kt H H' := by
  refine Kt.but (fun a => a = p ∨ a = dW ∨ a = dK ∨ a = dL ∨ a = dR) (fun a z => ?_) fun a o z h => e a o (fun y => z (.inl y)) (fun y => z (.inr (.inl y))) (fun y => z (.inr (.inr (.inl y)))) (fun y => z (.inr (.inr (.inr (.inl y))))) (fun y => z (.inr (.inr (.inr (.inr y))))) h
  obtain ⟨dx, hp⟩ := S.ob
  rcases z with rfl | rfl | rfl | rfl | rfl
  · exact ⟨_, hp, (fun xs z => by cases z), fun o xs z => by cases z⟩
  · exact ⟨_, S.wo, (fun xs z => by cases z), fun o xs z => by cases z⟩
  · exact ⟨_, S.ke, (fun xs z => by cases z), fun o xs z => by cases z⟩
  · exact ⟨_, S.li, (fun xs z => by cases z), fun o xs z => by cases z⟩
  · exact ⟨_, S.ru, (fun xs z => by cases z), fun o xs z => by cases z⟩
end
theorem ev_fl {K : PySem.W.Frag} {σ : L2.St} {H : Hp} {C p dx : Addr} {fs : List (Str × V)} {f : Str} {v : V} {i : Nat} (hp : H p = some (.ins C dx fs)) (hl : fs.lookup f = some v) (c : Cls K C) (na : NoAttr K C f) (hi : σ[i]? = some (some (.ref p))) : Ev (tFld K (tVar i) f) σ H v := fun H1 e Q q => ⟨.ref p, hi, p, C, dx, fs, v, rfl, e _ _ hp, c, na, hl, q H1 (Ex.refl H1)⟩
end Tc
/-! what is collected, in its order; a drawn table's rows rise with the keys -/
namespace Tc
open PySem L2 Evl PyProof.Rows
structure ColW (b : Addr) (K : PySem.W.Frag) (W : Nat → List PyData → Prop) (H : Hp) (D : Addr) (i : Nat) (H' : Hp) : Prop where
  fr : Fr b H H'
  new : H D = none
  ne : D ≠ b
  ex : ∃ (vs : List V) (ds : List PyData), H' D = some (.lst vs) ∧ DpAll K (hid D (hid b H')) vs ds ∧ vs.length ≤ i ∧ W i ds
section
variable {b D : Addr} {K : PySem.W.Frag} {W : Nat → List PyData → Prop} {H H' H4 : Hp} {i : Nat} {y : V} {d : PyData}
theorem ColW.skip (c : ColW b K W H D i H') (f : Fr b H' H4) (w : ∀ ds, W i ds → W (i + 1) ds) : ColW b K W H D (i + 1) H4 := by
  obtain ⟨vs, ds, h1, h2, h3, h4⟩ := c.ex
  exact ⟨c.fr.trans f, c.new, c.ne, vs, ds, f.at h1 c.ne, dps_same (same_hid f.sm) _ _ h2, Nat.le_succ_of_le h3, w _ h4⟩
theorem ColW.push (c : ColW b K W H D i H') (f : Fr b H' H4) (hy : Dp K (hid D (hid b H4)) y d) (w : ∀ ds, W i ds → W (i + 1) (ds ++ [d])) (hi : i < 10000) : ∃ acc, H4 D = some (.lst acc) ∧ acc.length < sizeLine ∧ ColW b K W H D (i + 1) (upd H4 D (.lst (acc ++ [y]))) := by
  obtain ⟨vs, ds, h1, h2, h3, h4⟩ := c.ex
  refine ⟨vs, f.at h1 c.ne, sz_lt (by omega), Fr.mut (c.fr.trans f) c.new c.ne, c.new, c.ne, vs ++ [y], ds ++ [d], upd_same, ?_, by rw [List.length_append]; exact Nat.succ_le_succ h3, w _ h4⟩
  rw [hid_upd2 _ _ c.ne]
  exact dps_app (dps_same (same_hid f.sm) _ _ h2) (.cons hy .nil)
theorem ColW.at (c : ColW b K W H D i H') : H' D ≠ none := by
  obtain ⟨vs, ds, h1, _⟩ := c.ex
  exact fun z => by
    rw [h1] at z
    cases z
end
theorem lt_take {ks : List Int} {i : Nat} {kk x : Int} (pw : ks.Pairwise (· < ·)) (h : ks[i]? = some kk) (m : x ∈ ks.take i) : x < kk := by
  have e : ks.take (i + 1) = ks.take i ++ [kk] := by
    rw [List.take_succ, h]
    rfl
  have p := pw.sublist (List.take_sublist (i + 1) ks)
  rw [e] at p
  exact (List.pairwise_append.mp p).2.2 x m kk (List.mem_singleton_self _)
def rowsUp (ks : List Int) (i : Nat) (ds : List PyData) : Prop := ∃ rs : List (Int × Int), ds = rs.map pairD ∧ (∀ r ∈ rs, r.1 ∈ ks.take i ∧ 0 ≤ r.2 ∧ r.2 < 1000) ∧ (ks.Pairwise (· < ·) → rs.Pairwise fun a b => a.1 < b.1)
theorem rowsUp.skip {ks : List Int} {i : Nat} {ds : List PyData} (h : rowsUp ks i ds) : rowsUp ks (i + 1) ds := by
  obtain ⟨rs, e, h1, h2⟩ := h
  refine ⟨rs, e, fun r m => ⟨?_, (h1 r m).2⟩, h2⟩
  have := (h1 r m).1
  rw [List.take_succ]
  exact List.mem_append_left _ this
theorem rowsUp.push {ks : List Int} {i : Nat} {ds : List PyData} {kk w : Int} (h : rowsUp ks i ds) (hk : ks[i]? = some kk) (hw : 0 ≤ w ∧ w < 1000) : rowsUp ks (i + 1) (ds ++ [pairD (kk, w)]) := by
  obtain ⟨rs, e, h1, h2⟩ := h
  refine ⟨rs ++ [(kk, w)], by rw [e, List.map_append]; rfl, fun r m => ?_, fun pw => List.pairwise_append.mpr ⟨h2 pw, List.pairwise_singleton _ _, fun a ma c mc => ?_⟩⟩
  · rw [List.take_succ, hk]
    rcases List.mem_append.mp m with m | m
    · exact ⟨List.mem_append_left _ (h1 r m).1, (h1 r m).2⟩
    · rw [List.mem_singleton.mp m]
      exact ⟨List.mem_append_right _ (List.mem_singleton_self _), hw⟩
  · rw [List.mem_singleton.mp mc]
    exact lt_take pw hk (h1 a ma).1
end Tc
/-! draws in tests and in ranges -/
namespace Tc
open PySem L2 Evl
end Tc
/-! a house and its readings, as they stand and as they are told -/
namespace Tc
open PySem L2 Evl
/-- all keys -/
def allKs : List Int := (List.range 1000).map fun (i : Nat) => (i : Int)
def opV : Option Int → V
  | some z => .int z
  | none => .non
/-- the lives, each with the place that it holds -/
def lvV (l : List (Int × Option Int)) : List (Key × V) := l.map fun r => (.inl r.1, opV r.2)
/-- a reading -/
structure Rdg where
  num : Int
  own : Int
  lo : Int
  hi : Int
  found : List (Int × Int)
  ended : Bool
/-- a reading that is one -/
structure RgOk (x : Rdg) : Prop where
  a : 0 ≤ x.lo
  b : x.lo < x.hi
  c : x.hi ≤ 1000
  f : ∀ r ∈ x.found, 0 ≤ r.1 ∧ r.1 < 1000
  g : x.found.Pairwise fun a b => a.1 < b.1
/-- a house -/
structure HM where
  f : Int → Option Int
  log : List PyData
  fk : Nat
  lg : Nat
  bg : Nat
  liv : List (Int × Option Int)
  run : List Rdg
def rfd (own : Int) (st fl : Addr) (en : Bool) : List (Str × V) := [("owner", .int own), ("stretch", .ref st), ("found", .ref fl), ("ended", .bl en)]
/-- a reading at r, its rows at fl -/
structure RdAt (K : PySem.W.Frag) (R : Addr) (H : Hp) (r fl : Addr) (x : Rdg) : Prop where
  ob : ∃ dx st, H r = some (.ins R dx (rfd x.own st fl x.ended)) ∧ SqT K H st [.int x.lo, .int x.hi]
  fo : ∃ vs, H fl = some (.lst vs) ∧ DpAll K H vs (x.found.map pairD)
theorem RdAt.keep {K : PySem.W.Frag} {R : Addr} {H H' : Hp} {r fl : Addr} {x : Rdg} (h : RdAt K R H r fl x) (e1 : ∀ o, H r = some o → H' r = some o) (e2 : ∀ o, H fl = some o → H' fl = some o) (kt : Kt H H') : RdAt K R H' r fl x := by
  obtain ⟨⟨dx, st, h1, h2⟩, vs, h3, h4⟩ := h
  exact ⟨⟨dx, st, e1 _ h1, kt.t h2⟩, vs, e2 _ h3, kt.dps (n := 1) (fun d m => by
    obtain ⟨r, _, rfl⟩ := List.mem_map.mp m
    rfl) h4⟩
def rnV (l : List (Rdg × Addr × Addr)) : List (Key × V) := l.map fun t => (.inl t.1.num, .ref t.2.1)
/-- what the house holds as its own -/
def fpL (p dW dK dL dR : Addr) (l : List (Rdg × Addr × Addr)) : List Addr := p :: dW :: dK :: dL :: dR :: l.flatMap fun t => [t.2.1, t.2.2]
structure HsB (K : PySem.W.Frag) (C R : Addr) (H : Hp) (p dW dK dL dR : Addr) (kvs : List (Key × V)) (kept : List V) (l : List (Rdg × Addr × Addr)) (m : HM) : Prop where
  at' : HsAt C H p dW dK dL dR kvs kept m.fk m.lg m.bg (lvV m.liv) (rnV l)
  di : DI allKs kvs m.f
  lo : DpAll K H kept m.log
  go : ∀ d ∈ m.log, goodEn allKs d = true
  lv : m.liv.Pairwise fun x y => x.1 < y.1
  lb : ∀ r ∈ m.liv, 1 ≤ r.1 ∧ r.1 ≤ m.lg
  rn : l.map (·.1) = m.run
  rp : m.run.Pairwise fun x y => x.num < y.num
  rb : ∀ x ∈ m.run, 0 ≤ x.num ∧ x.num < m.bg
  rk : ∀ x ∈ m.run, RgOk x
  rd : ∀ t ∈ l, RdAt K R H t.2.1 t.2.2 t.1
  nd : (fpL p dW dK dL dR l).Nodup
/-- a house at p that holds just X -/
def HsM (K : PySem.W.Frag) (C R : Addr) (H : Hp) (p : Addr) (m : HM) (X : Addr → Prop) : Prop := ∃ dW dK dL dR kvs kept l, HsB K C R H p dW dK dL dR kvs kept l m ∧ ∀ a, X a ↔ a ∈ fpL p dW dK dL dR l
def Off (X : Addr → Prop) (H H' : Hp) : Prop := ∀ a o, ¬ X a → H a = some o → H' a = some o
/-- no tuple -/
def NoT (H : Hp) (a : Addr) : Prop := ∃ o, H a = some o ∧ (∀ xs, o ≠ .tup xs) ∧ ∀ o' xs, o ≠ .frz o' (.tup xs)
theorem Off.kt {X : Addr → Prop} {H H' : Hp} (h : ∀ a, X a → NoT H a) (e : Off X H H') : Kt H H' := Kt.but X h e
theorem Off.ex {X : Addr → Prop} {H H' : Hp} (x : Ex H H') : Off X H H' := fun a o _ h => x a o h
theorem Off.trans {X : Addr → Prop} {H H1 H2 : Hp} (a : Off X H H1) (b : Off X H1 H2) : Off X H H2 := fun x o n h => b x o n (a x o n h)
/-- what stands behind a call: the house is m' now, all else stays -/
def HOut (K : PySem.W.Frag) (C R : Addr) (H : Hp) (p : Addr) (X : Addr → Prop) (m' : HM) (H' : Hp) : Prop := ∃ X', HsM K C R H' p m' X' ∧ Off X H H' ∧ ∀ a, X' a → X a ∨ H a = none
section
variable {K : PySem.W.Frag} {C R : Addr} {H H' : Hp} {p dW dK dL dR : Addr} {kvs : List (Key × V)} {kept : List V} {l : List (Rdg × Addr × Addr)} {m : HM} {X : Addr → Prop}
theorem fp_p : p ∈ fpL p dW dK dL dR l := List.mem_cons_self
theorem fp_W : dW ∈ fpL p dW dK dL dR l := List.mem_cons_of_mem _ List.mem_cons_self
theorem fp_K : dK ∈ fpL p dW dK dL dR l := List.mem_cons_of_mem _ (List.mem_cons_of_mem _ List.mem_cons_self)
theorem fp_L : dL ∈ fpL p dW dK dL dR l := List.mem_cons_of_mem _ (List.mem_cons_of_mem _ (List.mem_cons_of_mem _ List.mem_cons_self))
theorem fp_R : dR ∈ fpL p dW dK dL dR l := List.mem_cons_of_mem _ (List.mem_cons_of_mem _ (List.mem_cons_of_mem _ (List.mem_cons_of_mem _ List.mem_cons_self)))
theorem fp_r {t : Rdg × Addr × Addr} (h : t ∈ l) : t.2.1 ∈ fpL p dW dK dL dR l ∧ t.2.2 ∈ fpL p dW dK dL dR l := by
  have g : ∀ a ∈ [t.2.1, t.2.2], a ∈ fpL p dW dK dL dR l := fun a ha => List.mem_cons_of_mem _ (List.mem_cons_of_mem _ (List.mem_cons_of_mem _ (List.mem_cons_of_mem _ (List.mem_cons_of_mem _ (List.mem_flatMap.mpr ⟨t, h, ha⟩)))))
  exact ⟨g _ List.mem_cons_self, g _ (List.mem_cons_of_mem _ List.mem_cons_self)⟩
theorem HsB.noT (S : HsB K C R H p dW dK dL dR kvs kept l m) : ∀ a ∈ fpL p dW dK dL dR l, NoT H a := fun a ha => by
  obtain ⟨dx, hp⟩ := S.at'.ob
  unfold fpL at ha
  rcases List.mem_cons.mp ha with rfl | ha
  · exact ⟨_, hp, (fun xs z => by cases z), fun o xs z => by cases z⟩
  rcases List.mem_cons.mp ha with rfl | ha
  · exact ⟨_, S.at'.wo, (fun xs z => by cases z), fun o xs z => by cases z⟩
  rcases List.mem_cons.mp ha with rfl | ha
  · exact ⟨_, S.at'.ke, (fun xs z => by cases z), fun o xs z => by cases z⟩
  rcases List.mem_cons.mp ha with rfl | ha
  · exact ⟨_, S.at'.li, (fun xs z => by cases z), fun o xs z => by cases z⟩
  rcases List.mem_cons.mp ha with rfl | ha
  · exact ⟨_, S.at'.ru, (fun xs z => by cases z), fun o xs z => by cases z⟩
  obtain ⟨t, mt, ha⟩ := List.mem_flatMap.mp ha
  obtain ⟨⟨dx, st, h1, _⟩, vs, h3, _⟩ := S.rd t mt
  simp only [List.mem_cons, List.not_mem_nil, or_false] at ha
  rcases ha with rfl | rfl
  · exact ⟨_, h1, (fun xs z => by cases z), fun o xs z => by cases z⟩
  · exact ⟨_, h3, (fun xs z => by cases z), fun o xs z => by cases z⟩
/-- what is its own stays, and tuples: then the house does -/
theorem HsB.keep (S : HsB K C R H p dW dK dL dR kvs kept l m) (e : ∀ a o, a ∈ fpL p dW dK dL dR l → H a = some o → H' a = some o) (kt : Kt H H') : HsB K C R H' p dW dK dL dR kvs kept l m := by
  obtain ⟨dx, hp⟩ := S.at'.ob
  refine ⟨⟨⟨dx, e _ _ fp_p hp⟩, e _ _ fp_W S.at'.wo, e _ _ fp_K S.at'.ke, e _ _ fp_L S.at'.li, e _ _ fp_R S.at'.ru, S.at'.n1, S.at'.n2, S.at'.n3⟩, S.di, kt.dps (fun d m => nl_en (S.go d m)) S.lo, S.go, S.lv, S.lb, S.rn, S.rp, S.rb, S.rk, fun t mt => ?_, S.nd⟩
  exact (S.rd t mt).keep (fun o h => e _ _ (fp_r mt).1 h) (fun o h => e _ _ (fp_r mt).2 h) kt
theorem HsM.keep (S : HsM K C R H p m X) (e : ∀ a o, X a → H a = some o → H' a = some o) (kt : Kt H H') : HsM K C R H' p m X := by
  obtain ⟨dW, dK, dL, dR, kvs, kept, l, B, fx⟩ := S
  exact ⟨dW, dK, dL, dR, kvs, kept, l, B.keep (fun a o h => e a o ((fx a).mpr h)) kt, fx⟩
theorem HsM.ex (S : HsM K C R H p m X) (x : Ex H H') : HsM K C R H' p m X := S.keep (fun a o _ h => x a o h) (Kt.ex x)
theorem HsM.noT (S : HsM K C R H p m X) : ∀ a, X a → NoT H a := fun a h => by
  obtain ⟨dW, dK, dL, dR, kvs, kept, l, B, fx⟩ := S
  exact B.noT a ((fx a).mp h)
theorem HsM.fr {b : Addr} (S : HsM K C R H p m X) (hB : Bag H b) (f : Fr b H H') (n : ¬ X b) : HsM K C R H' p m X := S.keep (fun a o h z => f.at z fun y => n (y ▸ h)) (Kt.fr hB f)
theorem HOut.refl (S : HsM K C R H p m X) : HOut K C R H p X m H := ⟨X, S, fun _ _ _ h => h, fun _ h => .inl h⟩
end
end Tc
/-! what the top leaves, looked at once: defs, classes, exceptions -/
namespace Tc
open PySem PySem.Spec PyProof.Rows L2 He
def rfsO (g : Addr → Option Obj) (a : Addr) : List Addr := match g a with
  | some o => (match o.data with
    | .seq its _ => its.toList.flatMap refV
    | .dict es _ => es.toList.flatMap fun e => refV e.val
    | .func fd => refV fd.code ++ (refV fd.defaults ++ (refV fd.kwdefaults ++ fd.closure.map (·.2)))
    | .cls cd => cd.ns :: cd.mro.flatMap refV
    | _ => [])
  | none => []
/-- by steps from what is known -/
def reach (g : Addr → Option Obj) : Nat → List Addr → List Addr → List Addr
  | 0, seen, fr => seen ++ fr
  | n + 1, seen, fr => reach g n (seen ++ fr) (((fr.flatMap (rfsO g)).eraseDups).filter fun a => !(seen.contains a || fr.contains a))
abbrev FnC : Type := Option (Str × Str × Arguments × FuncBody × Scope × Addr × List Str × Addr)
def xcW (K : PySem.W.Frag) (x : Str) : FnC := match K.lookup (ma K (ga K x) "__init__") with
  | some ⟨_, _, .func fd, _⟩ => some (fd.name, fd.qualname, fd.params, fd.body, fd.scope, fd.globals, fd.closure.map (·.1), fd.builtins)
  | _ => none
/-- an exception's own __init__ -/
structure XcD where
  cls : Str
  qual : Str
  params : Arguments
  body : List Stmt
  scope : Scope
def XcD.val (d : XcD) : FnC := some ("__init__", d.qual, d.params, .stmts d.body, d.scope, mainGlobals, ["__class__"], builtinsNs)
/-! ### the look -/
abbrev AlM : Type := Bool × List FnW × List FnC
def obsM (fs : List (PySem.W.Frag → Bool)) (fn : List DefD) (xs : List XcD) (K : PySem.W.Frag) : AlM := ((fs.all fun f => f K) && fn.all fun d => d.ok K, fn.map (fun d => fnW K d.at_), xs.map fun x => xcW K x.cls)
def valM (fn : List DefD) (xs : List XcD) : AlM := (true, fn.map DefD.val, xs.map XcD.val)
def SaysM (fs : List (PySem.W.Frag → Bool)) (fn : List DefD) (xs : List XcD) (K : PySem.W.Frag) : Prop := obsM fs fn xs K = valM fn xs
def obsMG (n : Nat) (fs : List (PySem.W.Frag → Bool)) (fn : List DefD) (xs : List XcD) (g : Addr → Option Obj) : AlM := obsM fs fn xs (frG g (reach g n [cStatics] [mainGlobals]))
def hookM (n : Nat) (fs : List (PySem.W.Frag → Bool)) (fn : List DefD) (xs : List XcD) : PySem.W.Hook where
  α := AlM
  obs := fun s => obsMG n fs fn xs s.heap.get?
  val := fun _ => valM fn xs
  says := fun _ h => ∃ K : PySem.W.Frag, K.In h ∧ SaysM fs fn xs K
  of := fun _ _ e => ⟨_, frG_in, e⟩
  keeps := fun _ _ _ ⟨K, hK, c⟩ k => ⟨K, PySem.W.Frag.In.keeps hK k, c⟩
theorem obsMG_eq {n : Nat} {fs : List (PySem.W.Frag → Bool)} {fn : List DefD} {xs : List XcD} {g : Addr → Option Obj} {s : Shared} (h : ∀ a, g a = s.heap.get? a) : obsMG n fs fn xs g = (hookM n fs fn xs).obs s := by
  have e : g = s.heap.get? := funext h
  rw [e] <;> rfl
section
variable {fs : List (PySem.W.Frag → Bool)} {fn : List DefD} {xs : List XcD} {K : PySem.W.Frag}
theorem SaysM.fact (c : SaysM fs fn xs K) (i : Nat) {f : PySem.W.Frag → Bool} (h : fs[i]? = some f := by rfl) : f K = true := by
  have c1 := (ba (show ((fs.all fun f => f K) && fn.all fun d => d.ok K) = true from congrArg (fun z : AlM => z.1) c)).1
  exact List.all_eq_true.mp c1 f (List.mem_of_getElem? h)
theorem SaysM.def_ (c : SaysM fs fn xs K) (i : Nat) {d : DefD} (h : fn[i]? = some d := by rfl) : ∃ fd, FunD K d.name d.qual d.params d.body d.scope (d.dvs K) (d.kws K) (fAd K d.at_) fd := by
  have c2 := (ba (show ((fs.all fun f => f K) && fn.all fun d => d.ok K) = true from congrArg (fun z : AlM => z.1) c)).2
  have e : fn.map (fun d => fnW K d.at_) = fn.map DefD.val := congrArg (fun z : AlM => z.2.1) c
  have e2 : (fn.map fun d => fnW K d.at_)[i]? = (fn.map DefD.val)[i]? := by rw [e]
  rw [List.getElem?_map, List.getElem?_map, h] at e2
  exact DefD.funD (Option.some.inj e2) (List.all_eq_true.mp c2 d (List.mem_of_getElem? h))
end
/-- a def without defaults by places -/
theorem fun_of {K : PySem.W.Frag} {x qual : Str} {st : Stmt} {kws : List (Str × V)} {f : Addr} {fd : FuncData} (F : FunD K x qual (defArgs st) (defBody st) (defScope st) [] kws f fd) : Fun K x qual st f fd := by
  obtain ⟨oc, od, dV, kV, doc, pm, an, cdv, ct, osl, e, lk, hcd, hD, _⟩ := F.ex
  rcases hD with ⟨_, rfl⟩ | ⟨n, _⟩
  · exact ⟨⟨oc, od, kV, doc, pm, an, cdv, ct, osl, e, lk, hcd⟩, F.kp⟩
  · exact absurd rfl n
end Tc
/-! methods whose last names are left to their defaults, and that may let an exception out -/
namespace Tc
open PySem PySem.Spec PyProof.Rows L2 L2H
end Tc
/-! raising, said once -/
namespace Tc
open PySem L2 L2H PyProof.Rows Evl NdefX
end Tc
/-! a house: what one store does to it -/
namespace Tc
open PySem L2 Evl
section
variable {K : PySem.W.Frag} {C R : Addr} {H H' : Hp} {p dW dK dL dR : Addr} {kvs : List (Key × V)} {kept : List V} {l : List (Rdg × Addr × Addr)} {m : HM} {X : Addr → Prop}
structure Apart (p dW dK dL dR : Addr) (l : List (Rdg × Addr × Addr)) : Prop where
  pW : p ≠ dW
  pK : p ≠ dK
  pL : p ≠ dL
  pR : p ≠ dR
  WK : dW ≠ dK
  WL : dW ≠ dL
  WR : dW ≠ dR
  KL : dK ≠ dL
  KR : dK ≠ dR
  LR : dL ≠ dR
  r1 : ∀ t ∈ l, t.2.1 ≠ p ∧ t.2.1 ≠ dW ∧ t.2.1 ≠ dK ∧ t.2.1 ≠ dL ∧ t.2.1 ≠ dR
  r2 : ∀ t ∈ l, t.2.2 ≠ p ∧ t.2.2 ≠ dW ∧ t.2.2 ≠ dK ∧ t.2.2 ≠ dL ∧ t.2.2 ≠ dR
theorem HsB.apart (S : HsB K C R H p dW dK dL dR kvs kept l m) : Apart p dW dK dL dR l := by
  have nd := S.nd
  unfold fpL at nd
  obtain ⟨a1, nd⟩ := List.nodup_cons.mp nd
  obtain ⟨a2, nd⟩ := List.nodup_cons.mp nd
  obtain ⟨a3, nd⟩ := List.nodup_cons.mp nd
  obtain ⟨a4, nd⟩ := List.nodup_cons.mp nd
  obtain ⟨a5, nd⟩ := List.nodup_cons.mp nd
  simp only [List.mem_cons, not_or] at a1 a2 a3 a4
  have inl : ∀ t ∈ l, t.2.1 ∈ l.flatMap (fun t => [t.2.1, t.2.2]) ∧ t.2.2 ∈ l.flatMap (fun t => [t.2.1, t.2.2]) := fun t mt => ⟨List.mem_flatMap.mpr ⟨t, mt, List.mem_cons_self⟩, List.mem_flatMap.mpr ⟨t, mt, List.mem_cons_of_mem _ List.mem_cons_self⟩⟩
  refine ⟨a1.1, a1.2.1, a1.2.2.1, a1.2.2.2.1, a2.1, a2.2.1, a2.2.2.1, a3.1, a3.2.1, a4.1, fun t mt => ?_, fun t mt => ?_⟩
  · have h := (inl t mt).1
    exact ⟨fun z => a1.2.2.2.2 (z ▸ h), fun z => a2.2.2.2 (z ▸ h), fun z => a3.2.2 (z ▸ h), fun z => a4.2 (z ▸ h), fun z => a5 (z ▸ h)⟩
  · have h := (inl t mt).2
    exact ⟨fun z => a1.2.2.2.2 (z ▸ h), fun z => a2.2.2.2 (z ▸ h), fun z => a3.2.2 (z ▸ h), fun z => a4.2 (z ▸ h), fun z => a5 (z ▸ h)⟩
/-- one object of it is stored anew: tuples stay -/
theorem kt_upd {a : Addr} {o : HO} (h : NoT H a) : Kt H (upd H a o) := Kt.but (fun x => x = a) (fun x e => e ▸ h) fun x u n e => by rw [upd_ne n]; exact e
theorem rds_keep {a : Addr} {o : HO} (h : NoT H a) (rd : ∀ t ∈ l, RdAt K R H t.2.1 t.2.2 t.1) (n : ∀ t ∈ l, t.2.1 ≠ a ∧ t.2.2 ≠ a) : ∀ t ∈ l, RdAt K R (upd H a o) t.2.1 t.2.2 t.1 := fun t mt =>
  (rd t mt).keep (fun u e => by rw [upd_ne (n t mt).1]; exact e) (fun u e => by rw [upd_ne (n t mt).2]; exact e) (kt_upd h)
/-- the log made longer -/
theorem HsB.append {v : V} {d : PyData} (S : HsB K C R H p dW dK dL dR kvs kept l m) (hv : Dp K H v d) (hg : goodEn allKs d = true) : HsB K C R (upd H dK (.lst (kept ++ [v]))) p dW dK dL dR kvs (kept ++ [v]) l { m with log := m.log ++ [d] } := by
  have A := S.apart
  have nt := S.noT _ fp_K
  have kt : Kt H (upd H dK (.lst (kept ++ [v]))) := kt_upd nt
  obtain ⟨dx, hp⟩ := S.at'.ob
  refine ⟨⟨⟨dx, by rw [upd_ne A.pK]; exact hp⟩, by rw [upd_ne A.WK]; exact S.at'.wo, upd_same, by rw [upd_ne A.KL.symm]; exact S.at'.li, by rw [upd_ne A.KR.symm]; exact S.at'.ru, S.at'.n1, S.at'.n2, S.at'.n3⟩, S.di, dps_app (kt.dps (fun d m => nl_en (S.go d m)) S.lo) (.cons (kt.dp 3 _ _ (nl_en hg) hv) .nil), fun e me => ?_, S.lv, S.lb, S.rn, S.rp, S.rb, S.rk, rds_keep nt S.rd fun t mt => ⟨(A.r1 t mt).2.2.1, (A.r2 t mt).2.2.1⟩, S.nd⟩
  rcases List.mem_append.mp me with h | h
  · exact S.go e h
  · rw [List.mem_singleton.mp h]
    exact hg
end
end Tc
/-! a reading of the house changed where it stands; lives and numbers looked up -/
namespace Tc
open PySem L2 Evl
end Tc
/-! a comprehension that makes data of data -/
namespace Tc
open PySem L2 Evl
theorem kt_put {D : Addr} {H : Hp} {acc ws : List V} (h : H D = some (.lst acc)) : Kt H (upd H D (.lst ws)) :=
  Kt.but (fun a => a = D) (fun a e => by
    subst e
    exact ⟨_, h, (fun xs z => by cases z), fun o xs z => by cases z⟩) fun a o n k => by
    rw [upd_ne n]
    exact k
end Tc
/-! data made on the way, beside a bag -/
namespace Tc
open PySem L2 Evl
section
variable {K : PySem.W.Frag} {b : Addr} {σ : L2.St} {H : Hp}
def EvDs (K : PySem.W.Frag) (b : Addr) (ta : TA) (σ : L2.St) (H : Hp) (ds : List PyData) : Prop := ∀ H1, Ex H H1 → ∀ Q : List V → Hp → Prop, (∀ vs H2, Ex H1 H2 → DpAll K (hid b H2) vs ds → Q vs H2) → ta σ H1 Q
theorem EvDs.mono {ta : TA} {ds : List PyData} {H' : Hp} (x : Ex H H') (h : EvDs K b ta σ H ds) : EvDs K b ta σ H' ds := fun H1 y => h H1 (x.trans y)
end
end Tc
/-! a comprehension that makes data, by any walk -/
namespace Tc
open PySem L2 Evl
theorem lc_dataW {K : PySem.W.Frag} {σ : L2.St} {H : Hp} {wi : TI} {J : It} {n : Nat} {G : Hp → Prop} {Y : Nat → Hp → V → Hp → Prop} (w : Walk J n G Y) {g : TG} {t : TT} {te : TE} {vs : List Nat} {Q : VK} {α : Type} {k : Nat} (zs : List α) (p : α → Bool) (h : α → PyData) (B : α → L2.St → Hp → Prop) (hw : ∀ R : It → Hp → Prop, R J H → wi σ H R) (hn : zs.length = n) (few : n ≤ 40000)
    (hG : ∀ H', Ex H H' → G H')
    (hb : ∀ i z x H1 H2, zs[i]? = some z → Ex H H1 → Y i H1 x H2 → Ex H1 H2 ∧ ∀ R : L2.St → Hp → Prop, (∀ σ2, wipe σ2 vs = wipe σ vs → B z σ2 H2 → R σ2 H2) → g x (wipe σ vs) H2 R)
    (ht : ∀ z σ2 H2, z ∈ zs → Ex H H2 → B z σ2 H2 → EvT t σ2 H2 (p z))
    (he : ∀ z σ2 H2 H3, z ∈ zs → Ex H H2 → B z σ2 H2 → Ex H2 H3 → p z = true → ∀ Q : VK, (∀ y H4, Ex H3 H4 → Dp K H4 y (h z) → Q y H4) → te σ2 H3 Q)
    (nlh : ∀ z ∈ zs, nl k (h z) = true)
    (hd : ∀ D acc H', H D = none → Ex H H' → H' D = some (.lst acc) → DpAll K H' acc ((zs.filter p).map h) → Q (.ref D) H') : tLc wi g t te vs σ H Q := hw _ fun D hD => by
  refine lc_it w (fun i H' => Ex H H' ∧ ∃ acc, H' D = some (.lst acc) ∧ acc.length ≤ i ∧ DpAll K H' acc (((zs.take i).filter p).map h)) ⟨Ex.new hD, [], upd_same, Nat.le_refl _, .nil⟩ (fun i H' _ q => hG H' q.1) (fun i x H' G' hi q y => ?_) (fun H' q => ?_)
  · obtain ⟨xH, acc, hacc, la, dacc⟩ := q
    obtain ⟨z, hz⟩ : ∃ z, zs[i]? = some z := ⟨_, List.getElem?_eq_getElem (by omega)⟩
    have mz : z ∈ zs := List.mem_of_getElem? hz
    have tk : zs.take (i + 1) = zs.take i ++ [z] := by
      rw [List.take_succ, hz]
      rfl
    obtain ⟨xG, bind⟩ := hb i z x H' G' hz xH y
    refine bind _ fun σ2 hw hB => ⟨hw, ?_⟩
    refine ht z σ2 G' mz (xH.trans xG) hB G' (Ex.refl G') _ fun H3 x3 => ?_
    cases e : p z with
    | true =>
      rw [if_pos rfl]
      refine he z σ2 G' H3 mz (xH.trans xG) hB x3 e _ fun y H4 x4 dy => ⟨acc, x4 _ _ (x3 _ _ (xG _ _ hacc)), sz_lt (by omega), ?_, acc ++ [y], upd_same, by rw [List.length_append]; simp only [List.length_cons, List.length_nil]; omega, ?_⟩
      · intro b o hb
        rw [upd_ne (ne_of_none hb hD)]
        exact x4 _ _ (x3 _ _ (xG _ _ (xH _ _ hb)))
      · rw [tk, List.filter_append, List.filter_cons_of_pos e, List.filter_nil, List.map_append]
        refine (kt_put (x4 _ _ (x3 _ _ (xG _ _ hacc)))).dps (n := k) (fun u mu => ?_) (dps_app (dps_same ((xG.trans x3).trans x4) _ _ dacc) (.cons dy .nil))
        rcases List.mem_append.mp mu with mu | mu
        · obtain ⟨u', mu', rfl⟩ := List.mem_map.mp mu
          exact nlh u' (List.mem_of_mem_take ((List.mem_filter.mp mu').1))
        · rw [List.mem_singleton.mp mu]
          exact nlh z mz
    | false =>
      rw [if_neg Bool.false_ne_true]
      refine ⟨(xH.trans xG).trans x3, acc, x3 _ _ (xG _ _ hacc), Nat.le_succ_of_le la, ?_⟩
      rw [tk, List.filter_append, List.filter_cons_of_neg (by rw [e]; exact Bool.false_ne_true), List.filter_nil, List.append_nil]
      exact dps_same (xG.trans x3) _ _ dacc
  · obtain ⟨xH, acc, hacc, la, dacc⟩ := q
    rw [← hn, List.take_length] at dacc
    exact hd D acc H' hD xH hacc dacc
end Tc
/-! a heap in parts that lie apart; a comprehension over range that makes anything -/
namespace Tc
open PySem L2 Evl
/-- a part of the heap: its places, and what holds of it -/
structure Part where
  X : Addr → Prop
  A : Hp → Prop
  keep : ∀ H H', A H → (∀ a u, X a → H a = some u → H' a = some u) → Kt H H' → A H'
  noT : ∀ H, A H → ∀ a, X a → NoT H a
def Part.non : Part := ⟨fun _ => False, fun _ => True, fun _ _ _ _ _ => trivial, fun _ _ _ h => h.elim⟩
def pset {ι : Type} [DecidableEq ι] (p : ι → Part) (i : ι) (t : Part) : ι → Part := fun j => if j = i then t else p j
theorem pset_same {ι : Type} [DecidableEq ι] {p : ι → Part} {i : ι} {t : Part} : pset p i t i = t := if_pos rfl
theorem pset_ne {ι : Type} [DecidableEq ι] {p : ι → Part} {i j : ι} {t : Part} (h : j ≠ i) : pset p i t j = p j := if_neg h
/-- all parts hold, each apart from the others, none of what was there -/
structure Wd {ι : Type} (fx : ι → Prop) (H0 : Hp) (p : ι → Part) (H : Hp) : Prop where
  x0 : Ex H0 H
  a : ∀ j, (p j).A H
  d : ∀ i j, i ≠ j → ∀ x, (p i).X x → ¬ (p j).X x
  n : ∀ j x, (p j).X x → H0 x = none ∨ fx j
section
variable {ι : Type} [DecidableEq ι] {H0 H H' : Hp} {p : ι → Part} {fx : ι → Prop}
theorem Wd.ex (W : Wd fx H0 p H) (x : Ex H H') : Wd fx H0 p H' := ⟨W.x0.trans x, fun j => (p j).keep H H' (W.a j) (fun a u _ h => x a u h) (Kt.ex x), W.d, W.n⟩
theorem Wd.chg (W : Wd fx H0 p H) (i : ι) (t : Part) (nf : ¬ fx i) (off : Off (p i).X H H') (sub : ∀ a, t.X a → (p i).X a ∨ H a = none) (ht : t.A H') : Wd fx H0 (pset p i t) H' ∧ Kt H H' := by
  have kt : Kt H H' := Off.kt ((p i).noT H (W.a i)) off
  have ap : ∀ j, j ≠ i → ∀ x, t.X x → ¬ (p j).X x := fun j hj x tx px => by
    rcases sub x tx with h | h
    · exact W.d i j (fun e => hj e.symm) x h px
    · obtain ⟨u, hu, _⟩ := (p j).noT H (W.a j) x px
      rw [h] at hu
      cases hu
  refine ⟨⟨fun a o h => off a o (fun z => by rw [(W.n i a z).resolve_right nf] at h; cases h) (W.x0 a o h), fun j => ?_, fun j k hjk x hx hy => ?_, fun j x hx => ?_⟩, kt⟩
  · by_cases hj : j = i
    · subst hj
      rw [pset_same]
      exact ht
    · rw [pset_ne hj]
      exact (p j).keep H H' (W.a j) (fun a u px h => off a u (fun z => W.d j i hj a px z) h) kt
  · by_cases hj : j = i
    · subst hj
      rw [pset_same] at hx
      have hk : k ≠ j := fun e => hjk e.symm
      rw [pset_ne hk] at hy
      exact ap k hk x hx hy
    · rw [pset_ne hj] at hx
      by_cases hk : k = i
      · subst hk
        rw [pset_same] at hy
        exact ap j hj x hy hx
      · rw [pset_ne hk] at hy
        exact W.d j k hjk x hx hy
  · by_cases hj : j = i
    · subst hj
      rw [pset_same] at hx
      rcases sub x hx with h | h
      · exact W.n j x h
      · exact .inl (fresh_back W.x0 h)
    · rw [pset_ne hj] at hx
      exact W.n j x hx
/-- the same parts, one of them changed within -/
theorem Wd.same (W : Wd fx H0 p H) (i : ι) (nf : ¬ fx i) (off : Off (p i).X H H') (ht : (p i).A H') : Wd fx H0 p H' ∧ Kt H H' := by
  have e : pset p i (p i) = p := funext fun j => by
    by_cases hj : j = i
    · subst hj
      exact pset_same
    · exact pset_ne hj
  have r := W.chg i (p i) nf off (fun a z => .inl z) ht
  rw [e] at r
  exact r
theorem Wd.to {q : ι → Part} (W : Wd fx H0 p H) (e : ∀ j, q j = p j) : Wd fx H0 q H := by
  have : q = p := funext e
  rw [this]
  exact W
end
/-- a list alone: its place, what holds of its values where tuples stay -/
def Part.lst (a : Addr) (vs : List V) (A : Hp → Prop) (hA : ∀ H H', A H → Kt H H' → A H') : Part :=
  ⟨fun x => x = a, fun H => H a = some (.lst vs) ∧ A H, fun H H' h e kt => ⟨e a _ rfl h.1, hA H H' h.2 kt⟩, fun H h x e => by
    subst e
    exact ⟨_, h.1, (fun xs z => by cases z), fun o xs z => by cases z⟩⟩
end Tc
/-! a caught exception asked for its classes; which field it has -/
namespace Tc
open PySem L2 L2H PyProof.Rows Evl
/-- names of classes, and whether D is one of them -/
inductive ClsAt (X : Cx) (D : Addr) : List Expr → List Addr → Bool → Prop
  | nil : ClsAt X D [] [] false
  | cons {x : Str} {p : Pos} {b r : Bool} {es : List Expr} {cs : List Addr} (g : Gl X x) (hd : (x == ("__debug__" : Str)) = false) (hm : ∃ c, X.mg x = some (.ref c) ∧ PySem.W.kitOne X.K (.ref D) (.ref c) = some b) (t : ClsAt X D es cs r) : ClsAt X D (.Name x p :: es) (Classical.choose hm :: cs) (b || r)
theorem ClsAt.any {X : Cx} {D : Addr} {es : List Expr} {cs : List Addr} {b : Bool} (h : ClsAt X D es cs b) : PySem.W.kitAny X.K (.ref D) (cs.map Value.ref) = some b := by
  induction h with
  | nil => rfl
  | @cons x p b r es cs g hd hm t ih =>
    have e := (Classical.choose_spec hm).2
    rw [List.map_cons, PySem.W.kitAny, e]
    cases b with
    | true => rfl
    | false => exact ih
end Tc
/-! methods called in an except suite; a field of the caught one there; a row that is not reached -/
namespace Tc
open PySem PySem.Spec PyProof.Rows L2 L2H
end Tc
/-! calls of methods, their arguments evaluated -/
namespace Tc
open PySem L2 L2H PyProof.Rows Evl
section
variable {K : PySem.W.Frag} {σ : L2.St} {H : Hp} {C a D : Addr} {m : Str} {sp : Sp} {dvs vs zs : List V} {E1 : XK} {E : L2.St → XK} {ta td : TE} {t tk : TA} {v : V} {Q : VK} {n l : Nat}
/-- if t and u: what t comes to is known -/
theorem if_and {t1 u1 : TT} {tu tw : TS} {Dd : Ends} {b1 : Bool} (ht : EvT t1 σ H b1) (y : b1 = true → ∀ H1, Ex H H1 → tIfS u1 tu tw Dd σ H1) (n : b1 = false → ∀ H1, Ex H H1 → tw Dd σ H1) : tIfS (tAnd t1 u1) tu tw Dd σ H := ht H (Ex.refl H) _ fun H1 x1 => by
  cases b1 with
  | true =>
    rw [if_pos rfl]
    exact y rfl H1 x1
  | false =>
    rw [if_neg Bool.false_ne_true]
    show (if false = true then tu Dd σ H1 else tw Dd σ H1)
    rw [if_neg Bool.false_ne_true]
    exact n rfl H1 x1
theorem inV_ints (ks : List Int) (i : Int) : inV (.int i) (ks.map V.int) = decide (i ∈ ks) := by
  unfold inV
  rw [List.any_map]
  apply Bool.eq_iff_iff.mpr
  rw [List.any_eq_true, decide_eq_true_iff]
  constructor
  · rintro ⟨k, mk, e⟩
    have e' : (k == i) = true := e
    rw [← eq_of_beq e']
    exact mk
  · exact fun m => ⟨i, m, by show (i == i) = true; exact beq_self_eq_true i⟩
theorem flat_intsL (ks : List Int) : (ks.map V.int).all flatV = true := by
  rw [List.all_map]
  exact List.all_eq_true.mpr fun _ _ => rfl
theorem idx_nat {j n : Nat} (h : j < n) : seqIndex? (j : Int) n = some j := by
  unfold seqIndex?
  simp
  omega
theorem dps_eraseI : ∀ {vs : List V} {ds : List PyData} (n : Nat), DpAll K H vs ds → DpAll K H (vs.eraseIdx n) (ds.eraseIdx n)
  | _, _, _, .nil => .nil
  | _, _, 0, .cons h r => r
  | _, _, n + 1, .cons h r => .cons h (dps_eraseI n r)
theorem map_eraseI {α β : Type} (f : α → β) : ∀ (l : List α) (n : Nat), (l.eraseIdx n).map f = (l.map f).eraseIdx n
  | [], _ => rfl
  | _ :: _, 0 => rfl
  | x :: l, n + 1 => congrArg (f x :: ·) (map_eraseI f l n)
end
end Tc
namespace K29
open PySem L2 PyProof.Rows Tc Evl
def topS (i : Nat) : Stmt := PySem.Challenge.pw_tidecopy_k29_events_judged.main.body.getD i (.Pass ⟨0, 0, 0, 0⟩)
/-- what the module's names hold -/
structure Names (mg : Str → Option Value) : Prop where
  isinstance : mg "isinstance" = none
  int : mg "int" = none
  bool : mg "bool" = none
  tuple : mg "tuple" = none
  list : mg "list" = none
  str : mg "str" = none
  len : mg "len" = none
  set : mg "set" = none
  sorted : mg "sorted" = none
  range : mg "range" = none
  abs : mg "abs" = none
  min : mg "min" = none
  max : mg "max" = none
  dict : mg "dict" = none
  all : mg "all" = none
  enumerate : mg "enumerate" = none
  KEYS : ∃ t, mg "KEYS" = some (.int 1000 t)
  WORTHS : ∃ t, mg "WORTHS" = some (.int 1000 t)
def once (ks : List Int) : List Int := ((List.range 1000).map Int.ofNat).filter (fun k => decide (k ∈ ks))
theorem once_pw (ks : List Int) : (once ks).Pairwise (· < ·) := by
  unfold once
  refine List.Pairwise.filter _ (List.pairwise_map.mpr ?_)
  exact List.pairwise_lt_range.imp fun h => Int.ofNat_lt.mpr h
theorem once_mem (ks : List Int) (hb : ∀ k ∈ ks, 0 ≤ k ∧ k < 1000) (k : Int) : k ∈ once ks ↔ k ∈ ks := by
  unfold once
  rw [List.mem_filter, decide_eq_true_eq]
  refine ⟨fun h => h.2, fun h => ⟨?_, h⟩⟩
  have := hb k h
  exact List.mem_map.mpr ⟨k.toNat, List.mem_range.mpr (by omega), by
    show ((k.toNat : Nat) : Int) = k
    omega⟩
theorem once_len (ks : List Int) : (once ks).length ≤ 1000 := by
  unfold once
  refine Nat.le_trans (List.length_filter_le _ _) ?_
  rw [List.length_map, List.length_range]
  exact Nat.le_refl _
theorem once_few (ks : List Int) (hb : ∀ k ∈ ks, 0 ≤ k ∧ k < 1000) : (once ks).length ≤ ks.length := len_sub ((once_pw ks).imp fun {a b} z e => by omega) fun x m => (once_mem ks hb x).mp m
theorem cut_nat (us : List V) (lo hi : Nat) (h1 : lo ≤ hi) : cutV us (some (lo : Int)) (some (hi : Int)) = (us.drop lo).take (hi - lo) := by
  unfold cutV
  rw [HT.sIx_nat, HT.sIx_nat]
  refine List.ext_getElem? fun i => ?_
  rw [List.getElem?_take, List.getElem?_take, List.getElem?_drop, List.getElem?_drop]
  by_cases c : lo ≤ us.length
  · rw [Nat.min_eq_left c]
    by_cases d : i < hi - lo
    · rw [if_pos d]
      by_cases e : i < min hi us.length - lo
      · rw [if_pos e]
      · rw [if_neg e, List.getElem?_eq_none (by omega)]
    · rw [if_neg d, if_neg (by omega)]
  · rw [if_neg (by omega), List.getElem?_eq_none (l := us) (i := lo + i) (by omega)]
    split <;> rfl
theorem dps_cutN {K : PySem.W.Frag} {H : Hp} {us : List V} {ds : List PyData} (h : DpAll K H us ds) (lo n : Nat) : DpAll K H ((us.drop lo).take n) ((ds.drop lo).take n) := dps_take n (dps_drop lo h)
theorem en_kind {ks : List Int} {d : PyData} (h : goodEn ks d = true) : (∃ cs, d = .tuple [.str "group", .tuple cs] ∧ ∀ c ∈ cs, goodCh ks c = true) ∨ ∃ (s : Str) (i j : Int), d = .tuple [.str s, .int i, .int j] ∧ s ≠ "group" := by
  unfold goodEn at h
  split at h
  · rename_i s cs
    rw [Bool.and_eq_true, List.all_eq_true] at h
    rw [of_decide_eq_true h.1]
    exact .inl ⟨cs, rfl, h.2⟩
  · rename_i s i j
    refine .inr ⟨s, i, j, rfl, fun z => ?_⟩
    rw [decide_eq_true z] at h
    cases h
  · cases h
theorem ch_kindW {ks : List Int} {d : PyData} (h : goodCh ks d = true) : (∃ k, d = .tuple [.str "drop", .int k] ∧ k ∈ ks) ∨ ∃ (k z : Int), d = .tuple [.str "put", .int k, .int z] ∧ k ∈ ks ∧ (0 ≤ z ∧ z < 1000) := by
  unfold goodCh at h
  split at h
  · rename_i s k
    rw [Bool.and_eq_true] at h
    rw [of_decide_eq_true h.1]
    exact .inl ⟨k, rfl, of_decide_eq_true h.2⟩
  · rename_i s k z
    rw [Bool.and_eq_true, Bool.and_eq_true] at h
    rw [of_decide_eq_true h.1]
    exact .inr ⟨k, z, rfl, of_decide_eq_true h.2.1, of_decide_eq_true h.2.2⟩
  · cases h
theorem ch_kind {ks : List Int} {d : PyData} (h : goodCh ks d = true) : (∃ k, d = .tuple [.str "drop", .int k] ∧ k ∈ ks) ∨ ∃ (k z : Int), d = .tuple [.str "put", .int k, .int z] ∧ k ∈ ks := by
  rcases ch_kindW h with ⟨k, e, m⟩ | ⟨k, z, e, m, _⟩
  · exact .inl ⟨k, e, m⟩
  · exact .inr ⟨k, z, e, m⟩
def spTabP (K : PySem.W.Frag) : Sp := fun vs H Q _ => ∃ (b l : Addr) (ks : List Int), vs = [.ref b, .ref l] ∧ Bag H b ∧ KeysAt b H l ks ∧ ∀ p rs H', Tc.Fr b H H' → TP K H' p rs → (∀ r ∈ rs, r.1 ∈ ks) → (∀ r ∈ rs, 0 ≤ r.2 ∧ r.2 < 1000) → Q (.ref p) H'
section
variable {P : Program} {w : World} {K : PySem.W.Frag} {mg : Str → Option Value} {base : Heap}
theorem dpt2 {H : Hp} {v : V} {d0 d1 : PyData} (h : Dp K H v (.tuple [d0, d1])) : ∃ a x0 x1, v = .ref a ∧ SqT K H a [x0, x1] ∧ Dp K H x0 d0 ∧ Dp K H x1 d1 := by
  cases h with
  | tup hs r =>
    cases r with
    | cons h0 r =>
      cases r with
      | cons h1 r =>
        cases r
        exact ⟨_, _, _, rfl, hs, h0, h1⟩
theorem dpt3 {H : Hp} {v : V} {d0 d1 d2 : PyData} (h : Dp K H v (.tuple [d0, d1, d2])) : ∃ a x0 x1 x2, v = .ref a ∧ SqT K H a [x0, x1, x2] ∧ Dp K H x0 d0 ∧ Dp K H x1 d1 ∧ Dp K H x2 d2 := by
  cases h with
  | tup hs r =>
    cases r with
    | cons h0 r =>
      cases r with
      | cons h1 r =>
        cases r with
        | cons h2 r =>
          cases r
          exact ⟨_, _, _, _, rfl, hs, h0, h1, h2⟩
theorem g_name {i : Nat} {v : V} {σ : L2.St} {H : Hp} {Q : L2.St → Hp → Prop} (h : Q (σ.set i (some v)) H) : gName i v σ H Q := h
abbrev sTake : Stmt := topS 21
theorem scTake : FnScope ["bag", "many", "found"] ["bag", "many"] (defScope sTake) := ⟨rfl, rfl, rfl, by decide +kernel, rfl, by decide +kernel, by decide +kernel⟩
theorem ok_take {f : Addr} {fd : FuncData} {k : Nat} (F : Fun K "_law_take" "_law_take" sTake f fd) : FnOk P w K mg base CX0 (k + 1) f fd ["bag", "many"] spTake := by
  refine F.ok scTake (fun vs H Q E h => ?_) (fun cdv A outer s H vs Q E hr h => ?_)
  · obtain ⟨b, m, rfl, _⟩ := h
    rfl
  · obtain ⟨b, m, rfl, ⟨x, y, hb, hx, hy, hz⟩, hm, hm2, q⟩ := h
    refine ⟨_, pss_cons (ps_if (pt_cmpR op_gt (pe_ix ix_list (pv 0) pe_int (fun _ _ => rfl)) pe_int (nomark _))
        (pss_cons (ps_set (i := 2) scTake.nd rfl (.inl rfl) (pe_op op_mod (pe_ix ix_list (pv 0) pe_int (fun _ _ => rfl)) (pv 1)))
        (pss_cons (ps_asg (pe_op op_fdiv (pe_ix ix_list (pv 0) pe_int (fun _ _ => rfl)) (pv 1)) (pg_sub (pv 0) pe_int set_list))
        (pss_one (ps_ret (pv 2))))) pss_nil)
      (pss_cons (ps_asg (pe_op op_mod (pe_op op_mul (pe_ix ix_list (pv 0) pe_int (fun _ _ => rfl)) pe_int) pe_int) (pg_sub (pv 0) pe_int set_list))
      (pss_one (ps_ret (pe_op op_mod (pe_op op_fdiv (pe_op op_mod (pe_op op_mul (pe_ix ix_list (pv 0) pe_int (fun _ _ => rfl)) (pe_ix ix_list (pv 0) pe_int (fun _ _ => rfl))) pe_int) pe_int) (pv 1))))), ?_⟩
    have hS : SqL K H b [.int x, .int y] := sq_of hb
    refine s_if (et_test (ev_op (ev_l0 (ev_var rfl) hS) ev_c rv_I0)) (fun e H1 x1 => ?_) (fun e H1 x1 => ?_)
    · refine s_seq (s_asg (ev_op (ev_l0 (ev_var rfl) (ex_l x1 hS)) (ev_var rfl) (rv_mod hm)) fun H2 x2 => s_seq ?_)
      refine s_setL (l := b) (j := 0) (x2 b _ (x1 b _ hb)) (ev_op (ev_l0 (ev_var rfl) (ex_l (x1.trans x2) hS)) (ev_var rfl) (rv_fdiv hm hm2)) (ev_var rfl) ev_c (by simp) fun H3 x3 => ?_
      refine s_ret (ev_var rfl) fun H4 x4 => q _ _ ((Fr.put ((x1.trans x2).trans x3) (Int.ediv_nonneg hx (by omega)) hy hz).trans (Fr.ex ?_ x4)) (Int.emod_nonneg _ (by omega)) (Int.emod_lt_of_pos _ hm)
      exact ⟨x / m, y, upd_same, Int.ediv_nonneg hx (by omega), hy, hz⟩
    · have hS1 := ex_l x1 hS
      refine s_next (s_seq (s_setL (l := b) (j := 1) (x1 b _ hb) (ev_op (ev_op (ev_l1 (ev_var rfl) hS1) ev_c (rv_mul (.inl ⟨by omega, by omega⟩))) ev_c (rv_mod (by decide))) (ev_var rfl) ev_c (by simp) fun H2 x2 => ?_))
      have y1 := Int.emod_nonneg (y * 48271) (b := 2147483647) (by decide)
      have y2 := Int.emod_lt_of_pos (y * 48271) (b := 2147483647) (by decide)
      generalize hyy : y * 48271 % 2147483647 = yy at y1 y2
      have hb2 : (upd H2 b (.lst [.int x, .int yy])) b = some (.lst [.int x, .int yy]) := upd_same
      have hB : Bag (upd H2 b (.lst [.int x, .int yy])) b := ⟨x, yy, upd_same, hx, y1, by omega⟩
      have hS2 : SqL K (upd H2 b (.lst [.int x, .int yy])) b [.int x, .int yy] := sq_of upd_same
      refine s_ret (ev_op (ev_op (ev_op (ev_op (ev_l1 (ev_var rfl) hS2) (ev_l1 (ev_var rfl) hS2) (rv_mul (.inl ⟨by omega, by omega⟩))) ev_c (rv_mod (by decide))) ev_c (rv_fdiv (by decide) (by decide))) (ev_var rfl) (rv_mod hm)) fun H4 x4 => ?_
      exact q _ _ ((Fr.put (x1.trans x2) hx y1 (by omega)).trans (Fr.ex hB x4)) (Int.emod_nonneg _ (by omega)) (Int.emod_lt_of_pos _ hm)
abbrev sBag : Stmt := topS 20
theorem scBag : FnScope ["script", "k", "cell"] ["script", "k"] (defScope sBag) := ⟨rfl, rfl, rfl, by decide +kernel, rfl, by decide +kernel, by decide +kernel⟩
theorem ok_bag {f : Addr} {fd : FuncData} {k : Nat} (F : Fun K "_law_bag" "_law_bag" sBag f fd) (N : Names mg) : FnOk P w K mg base CX0 (k + 1) f fd ["script", "k"] (spBag K) := by
  refine F.ok scBag (fun vs H Q E h => ?_) (fun cdv A outer s H vs Q E hr h => ?_)
  · obtain ⟨a, ns, k, rfl, _⟩ := h
    rfl
  · obtain ⟨a, ns, n, rfl, hS, hn, q⟩ := h
    refine ⟨_, pss_cons (ps_set (i := 2) scBag.nd rfl (.inl rfl) pe_int)
      (Evl.pss_cut (ps_if (pt_cmpR op_lt (pv 1) (pe_callB call_len_seq (by rfl) N.len PySem.boot_len (pa_cons (pv 0) pa_nil)) (nomark _)) (pss_one (ps_set (i := 2) scBag.nd rfl (.inl rfl) (pe_callB call_abs (by rfl) N.abs boot_abs (pa_cons (pe_ix ix_list (pv 0) (pv 1) (fun _ _ => rfl)) pa_nil)))) pss_nil)
      (pss_cons (ps_if (pt_cmpR op_lt (pv 2) (pe_op op_pow pe_int pe_int) (nomark _)) (pss_one (ps_ret (pe_lst (pa_cons pe_int (pa_cons (pe_op op_add pe_int (pe_op op_mod (pe_op op_add (pe_op op_mul (pv 2) pe_int) (pe_op op_mul pe_int (pv 1))) pe_int)) pa_nil))))) pss_nil)
      (pss_one (ps_ret (pe_lst (pa_cons (pv 2) (pa_cons (pe_op op_add pe_int (pe_op op_mod (pe_op op_add (pv 2) (pv 1)) pe_int)) pa_nil))))))), ?_⟩
    refine s_seq (s_asg ev_c fun H1 x1 => ⟨fun σ' H' => ∃ c : Int, σ' = [some (.ref a), some (.int (n : Int)), some (.int c)] ∧ Ex H H' ∧ 0 ≤ c, ?_, fun σ' H' m => ?_⟩)
    · refine s_if (et_test (ev_op (ev_var rfl) (ev_len (ev_var rfl) (ex_l x1 hS)) rv_I0)) (fun e H2 x2 => ?_) (fun e H2 x2 => ⟨0, rfl, x1.trans x2, by decide⟩)
      have e1 := of_decide_eq_true e
      rw [List.length_map] at e1
      have hlt : n < ns.length := by omega
      have hx : (ns.map V.int)[n]? = some (.int ns[n]) := by
        rw [List.getElem?_map, List.getElem?_eq_getElem hlt]
        rfl
      refine s_asg (ev_abs (ev_lx (ev_var rfl) (ev_var rfl) (ex_l (x1.trans x2) hS) hx)) fun H3 x3 => ⟨_, rfl, (x1.trans x2).trans x3, ?_⟩
      split <;> omega
    · obtain ⟨c, rfl, xx, hc⟩ := m
      refine s_seq (s_if (et_test (ev_op (ev_var rfl) (ev_op ev_c ev_c (rv_pow ⟨by decide, by decide, by decide⟩)) rv_I0)) (fun e H2 x2 => ?_) (fun e H2 x2 => s_next ?_))
      · refine s_retL (el_lst (ea_cons ev_c (ea_cons (ev_op ev_c (ev_op (ev_op (ev_op (ev_var rfl) ev_c (rv_mul (.inr ⟨by decide, by decide⟩))) (ev_op ev_c (ev_var rfl) (rv_mul (.inl ⟨by decide, by decide⟩))) rv_add) ev_c (rv_mod (by decide))) rv_add) ea_nil)) (by simp)) fun p H3 hp x3 hb => ?_
        have y1 := Int.emod_nonneg (c * 7919 + 104729 * (n : Int)) (b := 2147483646) (by decide)
        have y2 := Int.emod_lt_of_pos (c * 7919 + 104729 * (n : Int)) (b := 2147483646) (by decide)
        exact q p H3 (fresh_back (xx.trans x2) hp) ((xx.trans x2).trans x3) ⟨_, _, hb, by decide, by omega, by omega⟩
      · refine s_retL (el_lst (ea_cons (ev_var rfl) (ea_cons (ev_op ev_c (ev_op (ev_op (ev_var rfl) (ev_var rfl) rv_add) ev_c (rv_mod (by decide))) rv_add) ea_nil)) (by simp)) fun p H3 hp x3 hb => ?_
        have y1 := Int.emod_nonneg (c + (n : Int)) (b := 2147483646) (by decide)
        have y2 := Int.emod_lt_of_pos (c + (n : Int)) (b := 2147483646) (by decide)
        exact q p H3 (fresh_back (xx.trans x2) hp) ((xx.trans x2).trans x3) ⟨_, _, hb, hc, by omega, by omega⟩
abbrev sKeys : Stmt := topS 23
theorem scKeys : FnScope ["bag", "step", "first", "at"] ["bag"] (defScope sKeys) := ⟨rfl, rfl, rfl, by decide +kernel, rfl, by decide +kernel, by decide +kernel⟩
theorem ok_keys {f : Addr} {fd : FuncData} {k : Nat} (F : Fun K "_law_keys" "_law_keys" sKeys f fd) (N : Names mg) (dT : Own P w K mg base "_law_take" ["bag", "many"] k spTake) : FnOk P w K mg base CX0 (k + 1) f fd ["bag"] spKeysQ := by
  refine F.ok scKeys (fun vs H Q E h => ?_) (fun cdv A outer s H vs Q E hr h => ?_)
  · obtain ⟨b, rfl, _⟩ := h
    rfl
  · obtain ⟨b, rfl, hB, q⟩ := h
    refine ⟨_, pss_cons (ps_set (i := 1) scKeys.nd rfl (.inr rfl) (pe_ix ix_list (pe_lst (pa_cons pe_int (pa_cons pe_int (pa_cons pe_int (pa_cons pe_int pa_nil))))) (pe_own dT hr (Nat.le_refl _) (by rfl) (pa_cons (pv 0) (pa_cons pe_int pa_nil))) (fun _ _ => rfl)))
      (pss_cons (ps_set (i := 2) scKeys.nd rfl (.inr rfl) (pe_own dT hr (Nat.le_refl _) (by rfl) (pa_cons (pv 0) (pa_cons (pe_op op_sub pe_int (pe_op op_mul pe_int (pv 1))) pa_nil))))
      (pss_one (ps_ret (pe_callB (cr_sortedSetA rfl) (by rfl) N.sorted boot_sorted (pa_cons (pe_callTy (cr_setL rfl) (by rfl) N.set boot_set (pa_cons (pe_op op_cat (pe_lc (own := [("at", 3)]) (g := gName 3) (tt := tYes) (te := tOp (rI0 fun i j => .int (i + j)) (tVar 2) (tOp (rI CMul fun i j => .int (i * j)) (tVar 1) (tVar 3))) rfl scKeys.nd
          (pi_range1 rfl N.range (pa_cons pe_int pa_nil)) (blkOk_by (N := ["bag", "step", "first", "at"]) (sc := defScope sKeys) (by decide +kernel)) (fun _ _ _ _ _ => pg_name (i := 3) scKeys.nd rfl (Or.inl rfl)) (fun _ _ _ _ _ => pts_nil) (fun _ _ _ _ _ => pe_op op_add (pv 2) (pe_op op_mul (pv 1) (pv 3))))
        (pe_lst (pa_cons pe_int (pa_cons pe_int pa_nil)))) pa_nil)) pa_nil))))), ?_⟩
    refine s_seq (item_new (b := b) (xs := [.int 1, .int 2, .int 7, .int 90]) (el_lst (ea_cons ev_c (ea_cons ev_c (ea_cons ev_c (ea_cons ev_c ea_nil)))) (by simp)) hB (fun H1 f1 Q q => take_of (m := 4) f1.bag (ea_cons (ev_var rfl) (ea_cons ev_c ea_nil)) (by decide) (by decide) q) fun v H1 f1 hv => ?_)
    obtain ⟨st, rfl, hst⟩ : ∃ st : Int, v = .int st ∧ (st = 1 ∨ st = 2 ∨ st = 7 ∨ st = 90) := by
      simp only [List.mem_cons, List.not_mem_nil, or_false] at hv
      rcases hv with h | h | h | h <;> exact ⟨_, h, by simp⟩
    refine s_seq (take_of (b := b) (m := 1000 - 9 * st) f1.bag (ea_cons (ev_var rfl) (ea_cons (ev_op ev_c (ev_op ev_c (ev_var rfl) (rv_mul (.inl ⟨by decide, by decide⟩))) rv_sub) ea_nil)) (by omega) (by omega) fun r H2 f2 h0 h1 => ?_)
    have hks : ((List.range 10).map fun (i : Nat) => V.int (r + st * (i : Int))) ++ [V.int 0, V.int 999] = (((List.range 10).map fun (i : Nat) => r + st * (i : Int)) ++ [0, 999]).map V.int := by
      rw [List.map_append, List.map_map]
      rfl
    have hb : ∀ k ∈ ((List.range 10).map fun (i : Nat) => r + st * (i : Int)) ++ [0, 999], 0 ≤ k ∧ k < 1000 := fun k m => by
      rcases List.mem_append.mp m with m | m
      · obtain ⟨i, hi, rfl⟩ := List.mem_map.mp m
        have := List.mem_range.mp hi
        rcases hst with h | h | h | h <;> subst h <;> omega
      · simp only [List.mem_cons, List.not_mem_nil, or_false] at m
        omega
    refine s_retL (el_sortset (ns := ((List.range 10).map fun (i : Nat) => r + st * (i : Int)) ++ [0, 999]) (ms := once (((List.range 10).map fun (i : Nat) => r + st * (i : Int)) ++ [0, 999])) (el_is (el_cat (xs := (List.range 10).map fun (i : Nat) => V.int (r + st * (i : Int))) (el_is (el_lcR1 (n := 10) (fun _ => true) (fun i => V.int (r + st * (i : Int))) (ea_cons ev_c ea_nil) (by decide) (fun x => rfl) (fun i H1 e hi => et_yes)
      (fun i H1 e hi _ => ev_op (ev_var rfl) (ev_op (ev_var rfl) (ev_var rfl) (rv_mul (.inl ?_))) rv_add)) (given_all _ _)) (el_lst (ea_cons ev_c (ea_cons ev_c ea_nil)) (by simp)) (by simp)) hks) (by simp) fun l h3 h4 => rising_one l _ h3 (once_pw _) fun k => (h4 k).trans (once_mem _ hb k).symm) fun p H3 hp x3 h3 => ?_
    · rcases hst with h | h | h | h <;> subst h <;> decide
    · exact q p _ H3 ((f1.trans f2).trans (Fr.ex f2.bag x3)) ⟨f2.bag.ne hp, h3, fun k m => hb k ((once_mem _ hb k).mp m), once_len _, List.length_pos_of_mem ((once_mem _ hb 0).mpr (by simp))⟩ (Nat.lt_of_le_of_lt (once_few _ hb) (by simp))
abbrev sOf : Stmt := topS 22
theorem scOf : FnScope ["bag", "some"] ["bag", "some"] (defScope sOf) := ⟨rfl, rfl, rfl, by decide +kernel, rfl, by decide +kernel, by decide +kernel⟩
theorem ok_of {f : Addr} {fd : FuncData} {kT kO kC k : Nat} (F : Fun K "_law_of" "_law_of" sOf f fd) (N : Names mg) (dT : Own P w K mg base "_law_take" ["bag", "many"] kT spTake) (hT : kT ≤ k) : FnOk P w K mg base CX0 (k + 1) f fd ["bag", "some"] spOf := by
  refine F.ok scOf (fun vs H Q E h => ?_) (fun cdv A outer s H vs Q E hr h => ?_)
  · obtain ⟨b, l, ks, rfl, _⟩ := h
    rfl
  · obtain ⟨b, l, ks, rfl, hB, hk, q⟩ := h
    refine ⟨_, (pss_one (ps_ret (pe_ix ix_list (pv 1) (pe_own dT hr hT (by rfl) (pa_cons (pv 0) (pa_cons (pe_callB call_len_seq (by rfl) N.len PySem.boot_len (pa_cons (pv 1) pa_nil)) pa_nil))) (fun _ _ => rfl)))), ?_⟩
    refine ⟨.ref l, rfl, take_of (b := b) (m := (ks.length : Int)) hB (ea_cons (ev_var rfl) (ea_cons (ev_is (ev_len (ev_var rfl) (sq_of hk.h)) (by rw [List.length_map])) ea_nil)) (by have := hk.some; omega) (by have := hk.few; omega) fun r H1 f1 r0 r1 => ?_⟩
    obtain ⟨n, rfl⟩ : ∃ n : Nat, r = (n : Int) := ⟨r.toNat, by omega⟩
    have hn : n < ks.length := by omega
    exact ⟨l, ks.map V.int, n, .int ks[n], rfl, rfl, sq_of (hk.fr f1).h, atI_nat (by rw [List.getElem?_map, List.getElem?_eq_getElem hn]; rfl), q _ _ (List.getElem_mem hn) f1⟩
/-- tuple(..) of what was collected, a tuple without a dict -/
theorem colP {b : Addr} {g : PyData → Bool} {H : Hp} {te : TE} {σ : L2.St} {Q : VK} {i : Nat} (h : ∀ Q' : VK, (∀ p H', Col b K g H p i H' → Q' (.ref p) H') → te σ H Q')
    (q : ∀ p ds H', Tc.Fr b H H' → (∃ xs, PT H' p xs ∧ DpAll K H' xs ds) → (∀ d ∈ ds, g d = true) → Q (.ref p) H') : tCB (rTupP K) (tCons te tNil) σ H Q :=
  h _ fun p H' c => by
    obtain ⟨vs, ds, h1, h2, h3, h4⟩ := c.ex
    exact ⟨p, vs, rfl, sq_of h1, fun l o hl od => q l ds _ (c.fr.trans (Fr.new c.fr.bag hl)) ⟨vs, ⟨o, upd_same, od⟩, dps_same (Ex.new hl) _ _ (dps_same (hid_same b _) _ _ (dps_same (hid_same p _) _ _ h2))⟩ h4⟩
abbrev sTab : Stmt := topS 24
theorem scTab : FnScope ["bag", "keys", "key"] ["bag", "keys"] (defScope sTab) := ⟨rfl, rfl, rfl, by decide +kernel, rfl, by decide +kernel, by decide +kernel⟩
theorem ok_tab {f : Addr} {fd : FuncData} {k : Nat} (F : Fun K "_law_table" "_law_table" sTab f fd) (N : Names mg) (dT : Own P w K mg base "_law_take" ["bag", "many"] k spTake) : FnOk P w K mg base CX0 (k + 1) f fd ["bag", "keys"] (spTabP K) := by
  refine F.ok scTab (fun vs H Q E h => ?_) (fun cdv A outer s H vs Q E hr h => ?_)
  · obtain ⟨b, l, ks, rfl, _⟩ := h
    rfl
  · obtain ⟨b, l, ks, rfl, hB, hka, q⟩ := h
    have hl := hka.h
    have hlb := hka.ne
    have hk := hka.bd
    have hn := hka.few
    refine ⟨_, pss_one (ps_ret (pe_callTy cr_tupP (by rfl) N.tuple boot_tuple (pa_cons (pe_lc (own := [("key", 2)]) (g := gName 2) (tt := tTest (tOp (rI0 fun i j => .bl (decide (j < i))) (tCall spTake [] E0 (tCons (tVar 0) (tCons (tC (.int 3)) tNil))) (tC (.int 0))))
        (te := tTup (tCons (tVar 2) (tCons (tCall spTake [] E0 (tCons (tVar 0) (tCons (tC (.int 1000)) tNil))) tNil))) rfl scTab.nd (pi_list (pv 1)) (blkOk_by (N := ["bag", "keys", "key"]) (sc := defScope sTab) (by decide +kernel)) (fun _ _ _ _ _ => pg_name (i := 2) scTab.nd rfl (Or.inl rfl))
        (fun _ _ _ _ _ => pts_one (pt_cmpR op_gt (pe_own dT hr (Nat.le_refl _) (by rfl) (pa_cons (pv 0) (pa_cons pe_int pa_nil))) pe_int (nomark _)))
        (fun _ _ _ _ _ => pe_tup (pa_cons (pv 2) (pa_cons (pe_own dT hr (Nat.le_refl _) (by rfl) (pa_cons (pv 0) (pa_cons pe_int pa_nil))) pa_nil)))) pa_nil))), ?_⟩
    refine colP (b := b) (K := K) (g := goodRow ks) (i := ks.length) (fun Q' q' => ?_) fun p ds H' fr tp h2 => ?_
    · refine ⟨.ref l, rfl, l, rfl, ⟨_, sq_of hl⟩, fun D hD => ?_⟩
      refine lc_list (K := K) (xs := ks.map V.int) (Col b K (goodRow ks) H D) (Col.start hB hD) (fun i H' _ c => sq_of (c.fr.at hl hlb)) (fun i x H' hx c => ⟨rfl, ?_⟩) (fun H' c => q' D H' (by rw [List.length_map] at c; exact c))
      rw [List.getElem?_map] at hx
      obtain ⟨kk, hkk, rfl⟩ := Option.map_eq_some_iff.mp hx
      have hi : i < ks.length := (List.getElem?_eq_some_iff.mp hkk).1
      have hb := hk kk (List.mem_of_getElem? hkk)
      refine take_of (b := b) (m := 3) c.fr.bag (ea_cons (ev_var rfl) (ea_cons ev_c ea_nil)) (by decide) (by decide) fun r H1 f1 r0 r1 => ⟨r, 0, rfl, rfl, _, rfl, ite2 (fun e => ?_) (fun e => c.skip f1)⟩
      refine ⟨.int kk, rfl, take_of (b := b) (m := 1000) f1.bag (ea_cons (ev_var rfl) (ea_cons ev_c ea_nil)) (by decide) (by decide) fun r2 H2 f2 r3 r4 => ⟨sz_of (by simp), fun p hp => ?_⟩⟩
      exact c.push ((f1.trans f2).trans (Fr.new f2.bag hp)) (dp_pair f2.bag (c.skip (f1.trans f2)).at hp) (by
        show (decide (kk ∈ ks) && decide (0 ≤ r2 ∧ r2 < 1000)) = true
        rw [decide_eq_true (List.mem_of_getElem? hkk), decide_eq_true ⟨r3, r4⟩]
        rfl) (by omega)
    · obtain ⟨rs, rfl, hr, hw⟩ := good_rows h2
      exact q p rs H' fr tp hr hw
abbrev sLCh : Stmt := topS 25
theorem scLCh : FnScope ["bag", "keys", "most", "found", "turn", "key"] ["bag", "keys", "most"] (defScope sLCh) := ⟨rfl, rfl, rfl, by decide +kernel, rfl, by decide +kernel, by decide +kernel⟩
abbrev sLEn : Stmt := topS 26
theorem scLEn : FnScope ["bag", "keys"] ["bag", "keys"] (defScope sLEn) := ⟨rfl, rfl, rfl, by decide +kernel, rfl, by decide +kernel, by decide +kernel⟩
abbrev sLLog : Stmt := topS 27
theorem scLLog : FnScope ["bag", "keys", "most", "turn"] ["bag", "keys", "most"] (defScope sLLog) := ⟨rfl, rfl, rfl, by decide +kernel, rfl, by decide +kernel, by decide +kernel⟩
abbrev sCo : Stmt := topS 11
theorem scCo : FnScope ["entry"] ["entry"] (defScope sCo) := ⟨rfl, rfl, rfl, by decide +kernel, rfl, by decide +kernel, by decide +kernel⟩
theorem ok_chsOf {f : Addr} {fd : FuncData} {k : Nat} (F : Fun K "changes_of" "changes_of" sCo f fd) (N : Names mg) : FnOk P w K mg base CX0 (k + 1) f fd ["entry"] (spChsOf K) := by
  refine F.ok scCo (fun vs H Q E h => ?_) (fun cdv A outer s H vs Q E hr h => ?_)
  · obtain ⟨v, d, ks, rfl, _⟩ := h
    rfl
  · obtain ⟨v, d, ks, rfl, hd, hg, q⟩ := h
    refine ⟨_, (pss_one (ps_ret (pe_ifExp (pt_cmpR op_eq (pe_ix ix_tup (pv 0) pe_int (fun _ _ => rfl)) pe_str (nomark _)) (pe_ix ix_tup (pv 0) pe_int (fun _ _ => rfl)) (pe_tup pa_nil)))), ?_⟩
    rcases en_kind hg with ⟨cs, rfl, _⟩ | ⟨s, i, j, rfl, hs⟩
    · obtain ⟨a, x0, x1, rfl, ht, h0, h1⟩ := dpt2 hd
      cases h0
      cases h1 with
      | tup hq hc =>
        refine s_ret (ev_if (b := true) (et_is (et_test (ev_op (ev_ix0 (ev_var rfl) ht) ev_c (rv_eq rfl))) (by simp)) (fun _ => ev_ix1 (ev_var rfl) ht) fun e => by cases e) fun H1 x1 => q _ _ H1 x1 (Evl.ex_t x1 hq) (dps_same x1 _ _ hc)
    · obtain ⟨a, x0, x1, x2, rfl, ht, h0, h1, h2⟩ := dpt3 hd
      cases h0
      refine (et_is (et_test (ev_op (ev_ix0 (ev_var rfl) ht) ev_c (rv_eq rfl))) (b := false) (by simp [hs])) H (Ex.refl H) _ fun H1 x1 => ?_
      rw [if_neg (by decide)]
      exact ⟨sz_of (by simp), fun p hp => q p [] _ (x1.trans (Ex.new hp)) (st_of upd_same) .nil⟩
abbrev sCa : Stmt := topS 12
theorem scCa : FnScope ["rows", "log", "low", "high", "entry", "change", "key"] ["rows", "log", "low", "high"] (defScope sCa) := ⟨rfl, rfl, rfl, by decide +kernel, rfl, by decide +kernel, by decide +kernel⟩
theorem ok_carry {f : Addr} {fd : FuncData} {kC k : Nat} (F : Fun K "carry" "carry" sCa f fd) (N : Names mg) (dC : Own P w K mg base "changes_of" ["entry"] kC (spChsOf K)) (hC : kC ≤ k) : FnOk P w K mg base CX0 (k + 1) f fd ["rows", "log", "low", "high"] (spCarry K) := by
  refine F.ok scCa (fun vs H Q E h => ?_) (fun cdv A outer s H vs Q E hr h => ?_)
  · obtain ⟨D, l, ks, kvs, f, ds, lo, hi, rfl, _⟩ := h
    rfl
  · obtain ⟨D, l, ks, kvs, f, ds, lo, hi, rfl, hD, di, hk, hl, h1, q⟩ := h
    refine ⟨_, pss_one (ps_for PassesOwn.never rfl (pi_list (pe_slice sl_list (pv 1) (po_some (pv 2)) (po_some (pv 3)))) (pg_name (i := 4) scCa.nd rfl (.inl rfl)) (pss_one (ps_for PassesOwn.never rfl (pi_tup (pe_own dC hr hC (by rfl) (pa_cons (pv 4) pa_nil))) (pg_name (i := 5) scCa.nd rfl (.inl rfl)) (pss_cons (ps_set (i := 6) scCa.nd rfl (.inl rfl) (pe_ix ix_tup (pv 5) pe_int (fun _ _ => rfl)))
      (pss_one (ps_if (pt_cmpR op_eq (pe_ix ix_tup (pv 5) pe_int (fun _ _ => rfl)) pe_str (nomark _)) (pss_one (ps_dput (hu_of hr) (pv 0) (pv 6) (pe_ix ix_tup (pv 5) pe_int (fun _ _ => rfl)) rfl)) (pss_one (ps_if (pt_cmp (pc_din (hu_of hr) (pv 6) (pv 0))) (pss_one (ps_ddel (pv 0) (pv 6))) pss_nil)))))))), ?_⟩
    obtain ⟨us, hs, hA⟩ := hl.ex
    have hlen := dps_len hA
    have hcut := dps_cutN hA lo (hi - lo)
    generalize hcs : (us.drop lo).take (hi - lo) = cs at hcut
    generalize hes : (ds.drop lo).take (hi - lo) = es at hcut q
    have hge : ∀ d ∈ es, goodEn ks d = true := fun d m => hl.good d (List.mem_of_mem_drop (List.mem_of_mem_take (hes ▸ m)))
    have hcl := dps_len hcut
    refine s_forNL (K := K) (xs := cs) (by
      rw [← hcs, ← cut_nat us lo hi h1]
      exact el_sl (ev_var rfl) (eo_some (ev_var rfl)) (eo_some (ev_var rfl)) hs) (fun p i σ' H' => ∃ y4 y5 y6 kvs', σ' = [some (.ref D), some (.ref l), some (.int lo), some (.int hi), y4, y5, y6] ∧ H p = none ∧ H' p = some (.lst cs) ∧ Bar D H H' ∧ H' D = some (.dK kvs') ∧ DI ks kvs' (appl f (lgD (es.take i)))) ?_ ?_ ?_ ?_
    · exact fun p H1 hp x1 hp1 => ⟨none, none, none, kvs, rfl, hp, hp1, Bar.ex x1, x1 D _ hD, di⟩
    · rintro p i σ' H' _ ⟨y4, y5, y6, kvs', _, _, hp, _⟩
      exact sq_of hp
    · rintro p i x σ' H' hx ⟨y4, y5, y6, kvs', rfl, hp, hp', hb, hD', di'⟩
      have hpD : p ≠ D := fun z => by
        subst z
        rw [hD] at hp
        cases hp
      obtain ⟨d, hd, hxd⟩ := dps_at (dps_bar hD hb _ _ hcut) hx
      have hgd := hge d (List.mem_of_getElem? hd)
      have hi' : i < es.length := (List.getElem?_eq_some_iff.mp hd).1
      have htk : es.take (i + 1) = es.take i ++ [d] := by
        rw [List.take_succ, hd]
        rfl
      refine g_name ?_
      dsimp only
      refine ⟨x, rfl, x, d, ks, rfl, hxd, hgd, fun a vs H1 x1 ha hvs => ⟨a, rfl, ⟨vs, ha⟩, ?_⟩⟩
      have hgc : ∀ c ∈ chsD d, goodCh ks c = true := by
        rcases en_kind hgd with ⟨cs, rfl, h⟩ | ⟨s, i, j, rfl, _⟩
        · exact h
        · exact fun c m => by cases m
      refine for_tup (K := K) (a := a) (xs := vs) (fun j σ2 H2 => ∃ y5 y6 kvs2, σ2 = [some (.ref D), some (.ref l), some (.int lo), some (.int hi), some x, y5, y6] ∧ Bar D H1 H2 ∧ H2 D = some (.dK kvs2) ∧ DI ks kvs2 (appl (appl f (lgD (es.take i))) (((chsD d).map chD).take j))) ⟨y5, y6, kvs', rfl, Bar.refl D H1, x1 D _ hD', di'⟩ ?_ ?_ ?_
      · rintro j σ2 H2 _ ⟨_, _, _, _, b2, _⟩
        exact bar_t (x1 D _ hD') b2 ha
      · rintro j y σ2 H2 hy ⟨z5, z6, kvs2, rfl, b2, hD2, di2⟩
        obtain ⟨c, hc, hyc⟩ := dps_at (dps_bar (x1 D _ hD') b2 _ _ hvs) hy
        have hj : ((chsD d).map chD).take (j + 1) = ((chsD d).map chD).take j ++ [chD c] := by
          rw [List.take_succ, List.getElem?_map, hc]
          rfl
        rw [hj, appl_app]
        have h64 : kvs2.length < sizeLine := sz_lt (by have := di2.len; omega)
        rcases ch_kind (hgc c (List.mem_of_getElem? hc)) with ⟨kk, rfl, mk⟩ | ⟨kk, zz, rfl, mk⟩
        · obtain ⟨pa, u0, u1, rfl, ht, h0, h1⟩ := dpt2 hyc
          cases h0
          cases h1
          refine g_name (s_seq (s_asg (ev_ix1 (ev_var rfl) ht) fun H3 x3 => ?_))
          refine s_if (b := false) (et_is (et_test (ev_op (ev_ix0 (ev_var rfl) (Evl.ex_t x3 ht)) ev_c (rv_eq rfl))) (by decide)) (fun e => by cases e) fun _ H4 x4 => ?_
          have hD4 : H4 D = some (.dK kvs2) := x4 D _ (x3 D _ hD2)
          have b4 : Bar D H1 H4 := b2.trans (Bar.ex (x3.trans x4))
          refine ⟨.int kk, rfl, .ref D, rfl, D, _, rfl, DGet.k (k := .inl kk) hD4, _, rfl, ?_⟩
          cases e : valV kvs2 (Sum.inl kk) with
          | none =>
            have : appl (appl f (lgD (es.take i))) (((chsD d).map chD).take j) kk = none := by
              have := di2.val kk
              rw [e] at this
              exact Option.map_eq_none_iff.mp this.symm
            exact ⟨_, _, kvs2, rfl, b4, hD4, di2.gone this⟩
          | some v =>
            exact ⟨.ref D, rfl, .int kk, rfl, D, kvs2, .inl kk, rfl, hD4, rfl, by rw [e]; rfl, _, _, _, rfl, b4.put, upd_same, di2.drop⟩
        · obtain ⟨pa, u0, u1, u2, rfl, ht, h0, h1, h2⟩ := dpt3 hyc
          cases h0
          cases h1
          cases h2
          refine g_name (s_seq (s_asg (ev_ix1 (ev_var rfl) ht) fun H3 x3 => ?_))
          refine s_if (b := true) (et_is (et_test (ev_op (ev_ix0 (ev_var rfl) (Evl.ex_t x3 ht)) ev_c (rv_eq rfl))) (by decide)) (fun _ H4 x4 => ?_) fun e => by cases e
          have hD4 : H4 D = some (.dK kvs2) := x4 D _ (x3 D _ hD2)
          have b4 : Bar D H1 H4 := b2.trans (Bar.ex (x3.trans x4))
          refine ev_ix2 (ev_var rfl) (Evl.ex_t (x3.trans x4) ht) H4 (Ex.refl H4) _ fun H5 x5 => ⟨.ref D, rfl, .int kk, rfl, D, _, rfl, DPut.k (k := .inl kk) (x5 D _ hD4) h64, ?_⟩
          exact ⟨_, _, _, rfl, (b4.trans (Bar.ex x5)).put, upd_same, di2.put mk⟩
      · rintro σ2 H2 ⟨z5, z6, kvs2, rfl, b2, hD2, di2⟩
        refine ⟨some x, z5, z6, kvs2, rfl, hp, b2 p _ hpD (x1 p _ hp'), hb.trans ((Bar.ex x1).trans b2), hD2, ?_⟩
        rw [htk, lgD_snoc, appl_app]
        rw [dps_len hvs, ← List.length_map (f := chD), List.take_length] at di2
        exact di2
    · rintro p σ' H' ⟨y4, y5, y6, kvs', rfl, _, _, hb, hD', di'⟩
      rw [hcl, List.take_length] at di'
      exact q kvs' H' hb hD' di'
end
end K29
namespace K29
open PySem L2 PyProof.Rows Tc Evl
def isNum : PyData → Bool
  | .int _ => true | _ => false
theorem isNum_eq (d : PyData) : isNum d = (isInt d && !isBool d) := by cases d <;> rfl
def isKey : PyData → Bool
  | .int i => decide (0 ≤ i) && decide (i < 1000) | _ => false
section
variable {P : Program} {w : World} {K : PySem.W.Frag} {mg : Str → Option Value} {base : Heap}
abbrev sNum : Stmt := topS 7
theorem scNum : FnScope ["thing"] ["thing"] (defScope sNum) := ⟨rfl, rfl, rfl, by decide +kernel, rfl, by decide +kernel, by decide +kernel⟩
theorem ok_num {f : Addr} {fd : FuncData} {k : Nat} (F : Fun K "is_number" "is_number" sNum f fd) (N : Names mg) : FnOk P w K mg base CX0 (k + 1) f fd ["thing"] (spTold K isNum) := by
  refine F.ok scNum (fun vs H Q E h => ?_) (fun cdv A outer s H vs Q E hr h => ?_)
  · obtain ⟨v, d, rfl, _⟩ := h
    rfl
  · obtain ⟨v, d, rfl, hd, q⟩ := h
    refine ⟨_, pss_one (ps_ret (pe_and (pe_callB call_isi (by rfl) N.isinstance boot_isinstance (pa_cons (pv 0) (pa_cons (pe_bltn (v := .ty "int") (by rfl) N.int boot_int rfl) pa_nil)))
      (pe_one (pe_not (pe_callB call_isi (by rfl) N.isinstance boot_isinstance (pa_cons (pv 0) (pa_cons (pe_bltn (v := .ty "bool") (by rfl) N.bool boot_bool rfl) pa_nil))))))), ?_⟩
    rw [isNum_eq] at q
    exact s_ret (ev_andV (ev_int (ev_var rfl) hd) fun _ => ev_notV (ev_bool (ev_var rfl) hd)) q
theorem num_int {H : Hp} {v : V} {d : PyData} (h : Dp K H v d) (e : isNum d = true) : ∃ i, v = .int i ∧ d = .int i := by
  cases h with
  | int i => exact ⟨i, rfl, rfl⟩
  | _ => cases e
theorem key_eq (d : PyData) : (isNum d && isKey d) = isKey d := by cases d <;> rfl
abbrev sKey : Stmt := topS 8
theorem scKey : FnScope ["thing"] ["thing"] (defScope sKey) := ⟨rfl, rfl, rfl, by decide +kernel, rfl, by decide +kernel, by decide +kernel⟩
theorem ok_key {f : Addr} {fd : FuncData} {k : Nat} (F : Fun K "is_key" "is_key" sKey f fd) (N : Names mg) (dN : Own P w K mg base "is_number" ["thing"] k (spTold K isNum)) : FnOk P w K mg base CX0 (k + 1) f fd ["thing"] (spTold K isKey) := by
  refine F.ok scKey (fun vs H Q E h => ?_) (fun cdv A outer s H vs Q E hr h => ?_)
  · obtain ⟨v, d, rfl, _⟩ := h
    rfl
  · obtain ⟨v, d, rfl, hd, q⟩ := h
    obtain ⟨tk, hK⟩ := N.KEYS
    refine ⟨_, pss_one (ps_ret (pe_and (pe_own dN hr (Nat.le_refl _) (by rfl) (pa_cons (pv 0) pa_nil)) (pe_one (pe_chain op_le op_lt pe_int (pv 0) (pe_glob (v := .int 1000) (by rfl) hK ⟨_, rfl⟩))))), ?_⟩
    refine s_ret (ev_is (ev_andV (b := isKey d) (ev_told (ev_var rfl) hd) fun e => ?_) (congrArg V.bl (key_eq d))) q
    obtain ⟨i, rfl, rfl⟩ := num_int hd e
    exact ev_chain (p := fun i j => decide (i ≤ j)) (p' := fun i j => decide (i < j)) ev_c (ev_var rfl) ev_c
abbrev sWorth : Stmt := topS 9
theorem scWorth : FnScope ["thing"] ["thing"] (defScope sWorth) := ⟨rfl, rfl, rfl, by decide +kernel, rfl, by decide +kernel, by decide +kernel⟩
theorem ok_worth {f : Addr} {fd : FuncData} {k : Nat} (F : Fun K "is_worth" "is_worth" sWorth f fd) (N : Names mg) (dN : Own P w K mg base "is_number" ["thing"] k (spTold K isNum)) : FnOk P w K mg base CX0 (k + 1) f fd ["thing"] (spTold K isKey) := by
  refine F.ok scWorth (fun vs H Q E h => ?_) (fun cdv A outer s H vs Q E hr h => ?_)
  · obtain ⟨v, d, rfl, _⟩ := h
    rfl
  · obtain ⟨v, d, rfl, hd, q⟩ := h
    obtain ⟨tk, hK⟩ := N.WORTHS
    refine ⟨_, pss_one (ps_ret (pe_and (pe_own dN hr (Nat.le_refl _) (by rfl) (pa_cons (pv 0) pa_nil)) (pe_one (pe_chain op_le op_lt pe_int (pv 0) (pe_glob (v := .int 1000) (by rfl) hK ⟨_, rfl⟩))))), ?_⟩
    refine s_ret (ev_is (ev_andV (b := isKey d) (ev_told (ev_var rfl) hd) fun e => ?_) (congrArg V.bl (key_eq d))) q
    obtain ⟨i, rfl, rfl⟩ := num_int hd e
    exact ev_chain (p := fun i j => decide (i ≤ j)) (p' := fun i j => decide (i < j)) ev_c (ev_var rfl) ev_c
end
end K29
namespace K29
open PySem L2 PyProof.Rows Tc Evl
/-- changes done in a dict -/
def spDone (K : PySem.W.Frag) : Sp := fun vs H Q _ => ∃ (D q : Addr) (ks : List Int) (kvs : List (Key × V)) (f : Int → Option Int) (us : List V) (cs : List PyData), vs = [.ref D, .ref q] ∧ H D = some (.dK kvs) ∧ DI ks kvs f ∧ ks.length < 64 ∧ SqT K H q us ∧ DpAll K H us cs ∧ (∀ c ∈ cs, goodCh ks c = true) ∧
  ∀ kvs' H', Bar D H H' → H' D = some (.dK kvs') → DI ks kvs' (appl f (cs.map chD)) → Q .non H'
/-- the rows of a dict, by keys -/
def spPairs (K : PySem.W.Frag) : Sp := fun vs H Q _ => ∃ (D : Addr) (ks : List Int) (kvs : List (Key × V)) (f : Int → Option Int), vs = [.ref D] ∧ H D = some (.dK kvs) ∧ DI ks kvs f ∧ ks.length < 64 ∧
  ∀ p js H', H p = none → Ex H H' → KeysOf f js → (∀ j ∈ js, j ∈ ks) → TP K H' p (rowsOf f js) → Q (.ref p) H'
section
variable {P : Program} {w : World} {K : PySem.W.Frag} {mg : Str → Option Value} {base : Heap}
abbrev sDone : Stmt := topS 28
theorem scDone : FnScope ["rows", "changes", "change"] ["rows", "changes"] (defScope sDone) := ⟨rfl, rfl, rfl, by decide +kernel, rfl, by decide +kernel, by decide +kernel⟩
theorem ok_done {f : Addr} {fd : FuncData} {k : Nat} (F : Fun K "_law_done" "_law_done" sDone f fd) : FnOk P w K mg base CX0 (k + 1) f fd ["rows", "changes"] (spDone K) := by
  refine F.ok scDone (fun vs H Q E h => ?_) (fun cdv A outer s H vs Q E hr h => ?_)
  · obtain ⟨D, q, ks, kvs, f, us, cs, rfl, _⟩ := h
    rfl
  · obtain ⟨D, qa, ks, kvs, f, us, cs, rfl, hD, di, h64, hq, hA, hg, q⟩ := h
    refine ⟨_, pss_one (ps_for PassesOwn.never rfl (pi_tup (pv 1)) (pg_name (i := 2) scDone.nd rfl (.inl rfl)) (pss_one (ps_if (pt_cmpR op_eq (pe_ix ix_tup (pv 2) pe_int (fun _ _ => rfl)) pe_str (nomark _)) (pss_one (ps_dput (hu_of hr) (pv 0) (pe_ix ix_tup (pv 2) pe_int (fun _ _ => rfl)) (pe_ix ix_tup (pv 2) pe_int (fun _ _ => rfl)) rfl)) (pss_one (ps_expr (pe_dpop2 (pv 0) (pe_ix ix_tup (pv 2) pe_int (fun _ _ => rfl)) pe_non ⟨rfl, rfl, rfl, rfl⟩)))))), ?_⟩
    refine ⟨.ref qa, rfl, qa, rfl, ⟨us, hq⟩, ?_⟩
    refine for_tup (K := K) (a := qa) (xs := us) (fun j σ2 H2 => ∃ y2 kvs2, σ2 = [some (.ref D), some (.ref qa), y2] ∧ Bar D H H2 ∧ H2 D = some (.dK kvs2) ∧ DI ks kvs2 (appl f ((cs.map chD).take j))) ⟨none, kvs, rfl, Bar.refl D H, hD, di⟩ ?_ ?_ ?_
    · rintro j σ2 H2 _ ⟨_, _, _, b2, _⟩
      exact bar_t hD b2 hq
    · rintro j y σ2 H2 hy ⟨y2, kvs2, rfl, b2, hD2, di2⟩
      obtain ⟨c, hc, hyc⟩ := dps_at (dps_bar hD b2 _ _ hA) hy
      have hj : (cs.map chD).take (j + 1) = (cs.map chD).take j ++ [chD c] := by
        rw [List.take_succ, List.getElem?_map, hc]
        rfl
      rw [hj, appl_app]
      have hz : kvs2.length < sizeLine := sz_lt (by have := di2.len; omega)
      rcases ch_kind (hg c (List.mem_of_getElem? hc)) with ⟨kk, rfl, mk⟩ | ⟨kk, zz, rfl, mk⟩
      · obtain ⟨pa, u0, u1, rfl, ht, h0, h1⟩ := dpt2 hyc
        cases h0
        cases h1
        refine g_name (s_if (b := false) (et_is (et_test (ev_op (ev_ix0 (ev_var rfl) ht) ev_c (rv_eq rfl))) (by decide)) (fun e => by cases e) fun _ H4 x4 => ?_)
        have hD4 := x4 D _ hD2
        refine ⟨.ref D, rfl, D, rfl, .inl ⟨kvs2, .inl hD4⟩, ev_ix1 (ev_var rfl) (Evl.ex_t x4 ht) H4 (Ex.refl H4) _ fun H5 x5 => ⟨kvs2, .inl kk, x5 D _ hD4, rfl, fun v hv => ⟨_, _, rfl, (b2.trans (Bar.ex (x4.trans x5))).put, upd_same, di2.drop⟩, fun hv => ⟨_, _, rfl, b2.trans (Bar.ex (x4.trans x5)), x5 D _ hD4, di2.gone ?_⟩⟩⟩
        rw [di2.val] at hv
        exact Option.map_eq_none_iff.mp hv
      · obtain ⟨pa, u0, u1, u2, rfl, ht, h0, h1, h2⟩ := dpt3 hyc
        cases h0
        cases h1
        cases h2
        refine g_name (s_if (b := true) (et_is (et_test (ev_op (ev_ix0 (ev_var rfl) ht) ev_c (rv_eq rfl))) (by decide)) (fun _ H4 x4 => ?_) fun e => by cases e)
        have hD4 := x4 D _ hD2
        refine ev_ix2 (ev_var rfl) (Evl.ex_t x4 ht) H4 (Ex.refl H4) _ fun H5 x5 => ⟨.ref D, rfl, ev_ix1 (ev_var rfl) (Evl.ex_t (x4.trans x5) ht) H5 (Ex.refl H5) _ fun H6 x6 => ⟨D, _, rfl, DPut.k (k := .inl kk) (x6 D _ (x5 D _ hD4)) hz, ?_⟩⟩
        exact ⟨_, _, rfl, (b2.trans (Bar.ex ((x4.trans x5).trans x6))).put, upd_same, di2.put mk⟩
    · rintro σ2 H2 ⟨y2, kvs2, rfl, b2, hD2, di2⟩
      rw [dps_len hA, ← List.length_map (f := chD), List.take_length] at di2
      exact q kvs2 H2 b2 hD2 di2
abbrev sPairs : Stmt := topS 29
theorem scPairs : FnScope ["rows", "key"] ["rows"] (defScope sPairs) := ⟨rfl, rfl, rfl, by decide +kernel, rfl, by decide +kernel, by decide +kernel⟩
theorem ok_pairs {f : Addr} {fd : FuncData} {k : Nat} (F : Fun K "_law_pairs" "_law_pairs" sPairs f fd) (N : Names mg) : FnOk P w K mg base CX0 (k + 1) f fd ["rows"] (spPairs K) := by
  refine F.ok scPairs (fun vs H Q E h => ?_) (fun cdv A outer s H vs Q E hr h => ?_)
  · obtain ⟨D, ks, kvs, f, rfl, _⟩ := h
    rfl
  · obtain ⟨D, ks, kvs, f, rfl, hD2, di, h64, q⟩ := h
    refine ⟨_, pss_one (ps_ret (pe_callTy cr_tupP (by rfl) N.tuple boot_tuple (pa_cons (pe_lc (own := [("key", 1)]) (g := gName 1) (tt := tYes) (te := tTup (tCons (tVar 1) (tCons (tDGet (tVar 0) (tVar 1)) tNil))) rfl scPairs.nd (pi_list (pe_callB (call_sortedDI rfl) (by rfl) N.sorted boot_sorted (pa_cons (pv 0) pa_nil))) (blkOk_by (N := ["rows", "key"]) (sc := defScope sPairs) (by decide +kernel)) (fun _ _ _ _ _ => pg_name (i := 1) scPairs.nd rfl (Or.inl rfl)) (fun _ _ _ _ _ => pts_nil) (fun _ _ _ _ _ => (pe_tup (pa_cons (pv 1) (pa_cons (pe_dget (hu_of hr) (pv 0) (pv 1) (fun _ _ => rfl)) pa_nil))))) pa_nil))), ?_⟩
    obtain ⟨js0, hks, nd, mem, hlen⟩ := di.keys
    refine ⟨.ref D, rfl, D, kvs, js0, rfl, .inl hD2, hks, by omega, fun ys p pm pw hp => ⟨p, rfl, ⟨_, sq_of upd_same⟩, fun D2 hD3 => ?_⟩⟩
    have ndy : ys.Nodup := pm.nodup_iff.mpr nd
    have kf : KeysOf f ys := ⟨lt_of_le_nodup pw ndy, fun k => (pm.mem_iff).trans (mem k)⟩
    have x3 : Ex H (upd H p (.lst (ys.map V.int))) := Ex.new hp
    generalize hH3 : upd H p (.lst (ys.map V.int)) = H3 at x3 hD3
    have hp3 : H3 p = some (.lst (ys.map V.int)) := by rw [← hH3]; exact upd_same
    refine lc_list (K := K) (a := p) (xs := ys.map V.int) (fun i H' => ∃ vs, Ex H3 H' ∧ H' D2 = some (.lst vs) ∧ vs.length = i ∧ DpAll K (hid D2 H') vs ((rowsOf f (ys.take i)).map Tc.pairD)) ⟨[], Ex.new hD3, upd_same, rfl, .nil⟩ (fun i H' _ h => ?_) (fun i x H' hx h => ⟨rfl, ?_⟩) (fun H' h => ?_)
    · obtain ⟨vs, x4, _⟩ := h
      exact sq_of (x4 p _ hp3)
    · obtain ⟨vs, x4, h4, hvl, hv⟩ := h
      rw [List.getElem?_map] at hx
      obtain ⟨kk, hkk, rfl⟩ := Option.map_eq_some_iff.mp hx
      have hm := (kf.2 kk).mp (List.mem_of_getElem? hkk)
      obtain ⟨ww, hww⟩ := Option.isSome_iff_exists.mp hm
      have hval : valV kvs (.inl kk) = some (.int ww) := by rw [di.val, hww]; rfl
      have hi : i < ys.length := (List.getElem?_eq_some_iff.mp hkk).1
      have hyl : ys.length = js0.length := pm.length_eq
      refine iteT (B := ∃ vs, Ex H3 H' ∧ H' D2 = some (.lst vs) ∧ vs.length = i + 1 ∧ DpAll K (hid D2 H') vs ((rowsOf f (ys.take (i + 1))).map Tc.pairD)) ?_
      refine ⟨.int kk, rfl, .ref D, rfl, .int kk, rfl, D, .int ww, rfl, by rw [← hval]; exact DGet.k (k := .inl kk) (x4 D _ (x3 D _ hD2)), sz_of (by simp), fun t ht => ?_⟩
      have htD : t ≠ D2 := fun z => by
        subst z
        rw [h4] at ht
        cases ht
      have x5 : Ex H' (upd H' t (.tup [.int kk, .int ww])) := Ex.new ht
      refine ⟨vs, x5 D2 _ h4, sz_lt (by omega), vs ++ [.ref t], (x4.trans x5).mut hD3, upd_same, by simp [hvl], ?_⟩
      rw [hid_upd, List.take_succ, hkk]
      unfold rowsOf
      rw [List.map_append, List.map_append]
      refine dps_app (dps_same (ex_hid x5) _ _ hv) (.cons ?_ .nil)
      show Dp K _ (.ref t) (.tuple [.int kk, .int ((f kk).getD 0)])
      rw [hww]
      exact .tup (st_of (hid_at upd_same htD)) (.cons (.int kk) (.cons (.int ww) .nil))
    · obtain ⟨vs, x4, h4, _, hv⟩ := h
      rw [List.length_map, List.take_length] at hv
      refine ⟨D2, vs, rfl, sq_of h4, fun t o ht od => ?_⟩
      have xA : Ex H (upd H' t (.frz o (.tup vs))) := (x3.trans x4).trans (Ex.new ht)
      have tn : H t = none := by
        cases e : H t with
        | none => rfl
        | some u =>
          have := ((x3.trans x4) t u e).symm.trans ht
          cases this
      refine q t ys _ tn xA kf (fun j m => ?_) ⟨vs, ⟨o, upd_same, od⟩, dps_same (Ex.new ht) _ _ (dps_same (hid_same D2 H') _ _ hv)⟩
      have := (kf.2 j).mp m
      rw [← (mem j)] at this
      have h2 : (Sum.inl j : Key) ∈ kvs.map (·.1) := hks ▸ List.mem_map.mpr ⟨j, this, rfl⟩
      obtain ⟨pp, hp1, hp2⟩ := List.mem_map.mp h2
      obtain ⟨kk, hk1, hk2⟩ := di.inn pp hp1
      cases (hp2.symm.trans hk2 : (Sum.inl j : Key) = Sum.inl kk)
      exact hk1
end
/-- the worths behind so many entries -/
def worthsAt (rs : List (Int × Int)) (ds : List PyData) (n : Nat) : Int → Option Int := appl (fRows rs) (lgD (ds.take n))
def grD (d : PyData) : PyData := .tuple (chsD d)
def spGroups (K : PySem.W.Frag) : Sp := fun vs H Q _ => ∃ (l : Addr) (ks : List Int) (ds : List PyData), vs = [.ref l] ∧ LogAt K H l ks ds ∧ ds.length ≤ 10000 ∧ ∀ p us H', H p = none → Ex H H' → H' p = some (.lst us) → DpAll K H' us (ds.map grD) → Q (.ref p) H'
def spAt (K : PySem.W.Frag) : Sp := fun vs H Q _ => ∃ (pt l : Addr) (rs : List (Int × Int)) (ks : List Int) (ds : List PyData) (n : Nat), vs = [.ref pt, .ref l, .int (n : Int)] ∧ TP K H pt rs ∧ (∀ r ∈ rs, r.1 ∈ ks) ∧ ks.length < 64 ∧ LogAt K H l ks ds ∧ ds.length ≤ 10000 ∧ n ≤ ds.length ∧
  ∀ p js H', H p = none → Ex H H' → KeysOf (worthsAt rs ds n) js → (∀ j ∈ js, j ∈ ks) → TP K H' p (rowsOf (worthsAt rs ds n) js) → Q (.ref p) H'
theorem to_hid {D : Addr} {H H' : Hp} (x : Ex H H') (hD : H D = none) : Same H (hid D H') := fun a o h => hid_at (x a o h) fun z => by
  rw [z, hD] at h
  cases h
section
variable {P : Program} {w : World} {K : PySem.W.Frag} {mg : Str → Option Value} {base : Heap}
abbrev sGroups : Stmt := topS 30
theorem scGroups : FnScope ["log", "entry"] ["log"] (defScope sGroups) := ⟨rfl, rfl, rfl, by decide +kernel, rfl, by decide +kernel, by decide +kernel⟩
theorem ok_groups {f : Addr} {fd : FuncData} {k : Nat} (F : Fun K "_law_groups" "_law_groups" sGroups f fd) : FnOk P w K mg base CX0 (k + 1) f fd ["log"] (spGroups K) := by
  refine F.ok scGroups (fun vs H Q E h => ?_) (fun cdv A outer s H vs Q E hr h => ?_)
  · obtain ⟨l, ks, ds, rfl, _⟩ := h
    rfl
  · obtain ⟨l, ks, ds, rfl, hl, hz, q⟩ := h
    refine ⟨_, pss_one (ps_ret (pe_lc (own := [("entry", 1)]) (g := gName 1) (tt := tYes) (te := tIf (tTest (tOp rEq (tOp (rIxT K) (tVar 1) (tC (.int 0))) (tC (.str "group")))) (tOp (rIxT K) (tVar 1) (tC (.int 1))) (tTup tNil)) rfl scGroups.nd (pi_list (pv 0)) (blkOk_by (N := ["log", "entry"]) (sc := defScope sGroups) (by decide +kernel)) (fun _ _ _ _ _ => pg_name (i := 1) scGroups.nd rfl (Or.inl rfl)) (fun _ _ _ _ _ => pts_nil) (fun _ _ _ _ _ => (pe_ifExp (pt_cmpR op_eq (pe_ix ix_tup (pv 1) pe_int (fun _ _ => rfl)) pe_str (nomark _)) (pe_ix ix_tup (pv 1) pe_int (fun _ _ => rfl)) (pe_tup pa_nil))))), ?_⟩
    obtain ⟨us, hs, hA⟩ := hl.ex
    have hlen := dps_len hA
    refine ⟨.ref l, rfl, l, rfl, ⟨us, hs⟩, fun D hD => ?_⟩
    refine lc_list (K := K) (a := l) (xs := us) (fun i H' => ∃ vs, Ex H H' ∧ H' D = some (.lst vs) ∧ vs.length = i ∧ DpAll K (hid D H') vs ((ds.take i).map grD)) ⟨[], Ex.new hD, upd_same, rfl, .nil⟩ (fun i H' _ ⟨vs, x, _⟩ => Evl.ex_l x hs) (fun i x H' hx ⟨vs, xH, hv, vl, dA⟩ => ⟨rfl, ?_⟩) (fun H' ⟨vs, xH, hv, vl, dA⟩ => ?_)
    · obtain ⟨d, hd, hxd⟩ := dps_at hA hx
      have hi : i < us.length := (List.getElem?_eq_some_iff.mp hx).1
      have htk : (ds.take (i + 1)).map grD = (ds.take i).map grD ++ [grD d] := by
        rw [List.take_succ, hd, List.map_append]
        rfl
      refine iteT (B := ∃ vs, Ex H H' ∧ H' D = some (.lst vs) ∧ vs.length = i + 1 ∧ DpAll K (hid D H') vs ((ds.take (i + 1)).map grD)) ?_
      have push : ∀ (y : V) (H2 : Hp), Ex H' H2 → Dp K (hid D H2) y (grD d) → ∃ acc, H2 D = some (.lst acc) ∧ acc.length < sizeLine ∧ ∃ vs, Ex H (upd H2 D (.lst (acc ++ [y]))) ∧ (upd H2 D (.lst (acc ++ [y]))) D = some (.lst vs) ∧ vs.length = i + 1 ∧ DpAll K (hid D (upd H2 D (.lst (acc ++ [y])))) vs ((ds.take (i + 1)).map grD) := fun y H2 x2 dy =>
        ⟨vs, x2 D _ hv, sz_lt (by omega), vs ++ [y], (xH.trans x2).mut hD, upd_same, by simp [vl], by
          rw [hid_upd, htk]
          exact dps_app (dps_same (ex_hid x2) _ _ dA) (.cons dy .nil)⟩
      rcases en_kind (hl.good d (List.mem_of_getElem? hd)) with ⟨cs, rfl, _⟩ | ⟨s, i', j', rfl, hns⟩
      · obtain ⟨pa, u0, u1, rfl, ht, h0, h1⟩ := dpt2 hxd
        cases h0
        refine ev_if (b := true) (et_is (et_test (ev_op (ev_ix0 (ev_var rfl) (Evl.ex_t xH ht)) ev_c (rv_eq rfl))) (by simp)) (fun _ => ev_ix1 (ev_var rfl) (Evl.ex_t xH ht)) (fun e => by cases e) H' (Ex.refl H') _ fun H2 x2 => push _ H2 x2 (dp_same (to_hid (xH.trans x2) hD) _ _ h1)
      · obtain ⟨pa, u0, u1, u2, rfl, ht, h0, h1, h2⟩ := dpt3 hxd
        cases h0
        refine (et_is (et_test (ev_op (ev_ix0 (ev_var rfl) (Evl.ex_t xH ht)) ev_c (rv_eq rfl))) (b := false) (by simp [hns])) H' (Ex.refl H') _ fun H1 x1 => ?_
        rw [if_neg (by decide)]
        refine ⟨sz_of (by simp), fun p hp => push _ _ (x1.trans (Ex.new hp)) (.tup (st_of (hid_at upd_same fun z => ?_)) .nil)⟩
        subst z
        rw [x1 p _ hv] at hp
        cases hp
    · rw [hlen, List.take_length] at dA
      exact q D vs H' hD xH hv (dps_same (hid_same D H') _ _ dA)
end
theorem cut_none (us : List V) (n : Nat) (h : n ≤ us.length) : cutV us none (some (n : Int)) = us.take n := by
  have e : HT.sIx us.length us.length (some (n : Int)) = n := by
    unfold HT.sIx
    show (if (n : Int) < 0 then _ else min (n : Int).toNat us.length) = n
    rw [if_neg (by omega)]
    omega
  have e0 : HT.sIx us.length 0 none = 0 := rfl
  unfold cutV
  rw [e, e0, List.drop_zero, Nat.sub_zero]
theorem dict_di {K : PySem.W.Frag} {H : Hp} {p : Addr} {rs : List (Int × Int)} {ks : List Int} {Q : VK} (h : TP K H p rs) (hk : ∀ r ∈ rs, r.1 ∈ ks) (q : ∀ D kvs, H D = none → DI ks kvs (fRows rs) → Q (.ref D) (upd H D (.dK kvs))) : rDictT K [.ref p] H Q := by
  obtain ⟨xs, hp, hA⟩ := h
  obtain ⟨ps, rfl, hP⟩ := pairs_dp hA
  exact ⟨p, ps, _, rfl, hp, hP, fun D hD => q D _ hD (merge_rows rs [] (fun _ => none) hk DI.nil)⟩
section
variable {P : Program} {w : World} {K : PySem.W.Frag} {mg : Str → Option Value} {base : Heap}
abbrev sAt : Stmt := topS 31
theorem scAt : FnScope ["table", "log", "place", "rows", "changes"] ["table", "log", "place"] (defScope sAt) := ⟨rfl, rfl, rfl, by decide +kernel, rfl, by decide +kernel, by decide +kernel⟩
theorem ok_at {f : Addr} {fd : FuncData} {kG kD kP k : Nat} (F : Fun K "_law_at" "_law_at" sAt f fd) (N : Names mg) (dG : Own P w K mg base "_law_groups" ["log"] kG (spGroups K)) (hG : kG ≤ k) (dD : Own P w K mg base "_law_done" ["rows", "changes"] kD (spDone K)) (hDn : kD ≤ k) (dP : Own P w K mg base "_law_pairs" ["rows"] kP (spPairs K)) (hP : kP ≤ k) : FnOk P w K mg base CX0 (k + 1) f fd ["table", "log", "place"] (spAt K) := by
  refine F.ok scAt (fun vs H Q E h => ?_) (fun cdv A outer s H vs Q E hr h => ?_)
  · obtain ⟨pt, l, rs, ks, ds, n, rfl, _⟩ := h
    rfl
  · obtain ⟨pt, l, rs, ks, ds, n, rfl, ht, hk, h64, hl, hz, hn, q⟩ := h
    refine ⟨_, (pss_cons (ps_set (i := 3) scAt.nd rfl (.inl rfl) (pe_callTy (cr_dictT rfl) (by rfl) N.dict boot_dict (pa_cons (pv 0) pa_nil)))
      (pss_cons (ps_for PassesOwn.never rfl (pi_list (pe_slice sl_list (pe_own dG hr hG (by rfl) (pa_cons (pv 1) pa_nil)) po_none (po_some (pv 2)))) (pg_name (i := 4) scAt.nd rfl (.inl rfl)) (pss_one (ps_expr (pe_own dD hr hDn (by rfl) (pa_cons (pv 3) (pa_cons (pv 4) pa_nil))))))
      (pss_one (ps_ret (pe_own dP hr hP (by rfl) (pa_cons (pv 3) pa_nil)))))), ?_⟩
    refine s_seq ⟨.ref pt, rfl, ?_⟩
    unfold tNil
    dsimp only
    refine dict_di ht hk fun D kvs0 hD di0 => g_name ?_
    have x1 : Ex H (upd H D (.dK kvs0)) := Ex.new hD
    have hD1 : (upd H D (.dK kvs0)) D = some (.dK kvs0) := upd_same
    generalize hH1 : upd H D (.dK kvs0) = H1 at x1 hD1
    refine s_seq ⟨.ref l, rfl, l, ks, ds, rfl, hl.same x1, hz, fun pg us H2 npg x2 hg dA => ⟨.int (n : Int), rfl, (n : Int), rfl, pg, us, rfl, sq_of hg, fun p hp => ⟨p, rfl, ⟨_, sq_of upd_same⟩, ?_⟩⟩⟩
    have ul : us.length = ds.length := by rw [dps_len dA, List.length_map]
    rw [cut_none us n (by omega)]
    have x3 : Ex H2 (upd H2 p (.lst (us.take n))) := Ex.new hp
    have hp3 : (upd H2 p (.lst (us.take n))) p = some (.lst (us.take n)) := upd_same
    generalize hH3 : upd H2 p (.lst (us.take n)) = H3 at x3 hp3
    have hD3 : H3 D = some (.dK kvs0) := x3 D _ (x2 D _ hD1)
    have pD : p ≠ D := fun z => by
      subst z
      rw [hD3] at hp3
      cases hp3
    have x03 := x1.trans (x2.trans x3)
    have dA3 := dps_same x3 _ _ dA
    have tl : (us.take n).length = n := by rw [List.length_take]; omega
    refine for_list (K := K) (a := p) (xs := us.take n) (fun i σ' H' => ∃ y4 kvs, σ' = [some (.ref pt), some (.ref l), some (.int (n : Int)), some (.ref D), y4] ∧ Bar D H3 H' ∧ H' D = some (.dK kvs) ∧ DI ks kvs (worthsAt rs ds i)) ⟨none, kvs0, rfl, Bar.refl D H3, hD3, di0⟩ (fun i σ' H' _ ⟨_, _, _, b, _⟩ => sq_of (b p _ pD hp3)) ?_ ?_
    · rintro i x σ' H' hx ⟨y4, kvs, rfl, b, hDk, di⟩
      have hi : i < n := by
        have := (List.getElem?_eq_some_iff.mp hx).1
        omega
      rw [List.getElem?_take_of_lt hi] at hx
      obtain ⟨g, hgd, hxg⟩ := dps_at (dps_bar hD3 b _ _ dA3) hx
      rw [List.getElem?_map] at hgd
      obtain ⟨d, hd, rfl⟩ := Option.map_eq_some_iff.mp hgd
      have htk : ds.take (i + 1) = ds.take i ++ [d] := by
        rw [List.take_succ, hd]
        rfl
      have hgc : ∀ c ∈ chsD d, goodCh ks c = true := by
        rcases en_kind (hl.good d (List.mem_of_getElem? hd)) with ⟨cs, rfl, h⟩ | ⟨s, i, j, rfl, _⟩
        · exact h
        · exact fun c m => by cases m
      refine g_name ?_
      dsimp only
      unfold grD at hxg
      cases hxg with
      | tup hq hc =>
        refine ⟨.ref D, rfl, _, rfl, D, _, ks, kvs, _, _, chsD d, rfl, hDk, di, h64, hq, hc, hgc, fun kvs2 H4 b4 hD4 di4 => ⟨_, kvs2, rfl, b.trans b4, hD4, ?_⟩⟩
        unfold worthsAt
        rw [htk, lgD_snoc, appl_app]
        exact di4
    · rintro σ' H' ⟨y4, kvs, rfl, b, hDk, di⟩
      rw [tl] at di
      have xE : Ex H H' := b.exOf x03 hD
      exact ⟨.ref D, rfl, D, ks, kvs, worthsAt rs ds n, rfl, hDk, di, h64, fun pp js H5 npp x5 kf hj tp => q pp js H5 (fresh_back xE npp) (xE.trans x5) kf hj tp⟩
end
end K29
namespace K29
open PySem L2 PyProof.Rows Tc Evl
/-- a dict whose keys are those of S -/
structure MI (ks : List Int) (kvs : List (Key × V)) (S : Int → Prop) : Prop where
  nd : (kvs.map (·.1)).Nodup
  inn : ∀ p ∈ kvs, ∃ k ∈ ks, p.1 = Sum.inl k
  has : ∀ k, (valV kvs (Sum.inl k)).isSome = true ↔ S k
theorem MI.nil {ks : List Int} : MI ks [] fun _ => False := ⟨List.nodup_nil, fun p m => (by cases m), fun k => ⟨fun h => (by cases h), fun h => False.elim h⟩⟩
theorem MI.put {ks : List Int} {kvs : List (Key × V)} {S : Int → Prop} {k : Int} {v : V} (h : MI ks kvs S) (hk : k ∈ ks) : MI ks (putK kvs (.inl k) v) (fun j => S j ∨ j = k) := by
  refine ⟨?_, fun p m => ?_, fun j => ?_⟩
  · cases e : valV kvs (.inl k) with
    | none => exact nd_putK _ h.nd e
    | some v => rw [putK_old (by rw [e]; rfl)]; exact h.nd
  · rcases mem_putK m with e | ⟨q, m, e⟩
    · exact ⟨k, hk, e⟩
    · obtain ⟨j, hj, e'⟩ := h.inn q m
      exact ⟨j, hj, e ▸ e'⟩
  · rw [valV_put]
    by_cases e : j = k
    · rw [if_pos (by rw [e])]
      exact ⟨fun _ => .inr e, fun _ => rfl⟩
    · rw [if_neg fun z => e (Sum.inl.inj z), h.has]
      exact ⟨.inl, fun z => z.elim id fun y => absurd y e⟩
theorem MI.len {ks : List Int} {kvs : List (Key × V)} {S : Int → Prop} (h : MI ks kvs S) : kvs.length ≤ ks.length := by
  have : (kvs.map (·.1)).length ≤ (ks.map (Sum.inl : Int → Key)).length := len_sub h.nd fun x m => by
    obtain ⟨p, hp, rfl⟩ := List.mem_map.mp m
    obtain ⟨k, hk, e⟩ := h.inn p hp
    exact List.mem_map.mpr ⟨k, hk, e.symm⟩
  rw [List.length_map, List.length_map] at this
  exact this
theorem MI.iff {ks : List Int} {kvs : List (Key × V)} {S S' : Int → Prop} (h : MI ks kvs S) (e : ∀ k, S k ↔ S' k) : MI ks kvs S' := ⟨h.nd, h.inn, fun k => (h.has k).trans (e k)⟩
def spMoved (K : PySem.W.Frag) : Sp := fun vs H Q _ => ∃ (l : Addr) (ks : List Int) (ds : List PyData) (lo hi : Nat), vs = [.ref l, .int (lo : Int), .int (hi : Int)] ∧ LogAt K H l ks ds ∧ ks.length < 64 ∧ ds.length ≤ 10000 ∧ lo ≤ hi ∧
  ∀ D kvs H', H D = none → Ex H H' → H' D = some (.dK kvs) → MI ks kvs (fun k => ∃ c ∈ lgD ((ds.drop lo).take (hi - lo)), c.1 = k) → Q (.ref D) H'
theorem dps_cutM {K : PySem.W.Frag} {H : Hp} {us : List V} {ds : List PyData} (h : DpAll K H us ds) (lo n : Nat) : DpAll K H ((us.drop lo).take n) ((ds.drop lo).take n) := dps_take n (dps_drop lo h)
section
variable {P : Program} {w : World} {K : PySem.W.Frag} {mg : Str → Option Value} {base : Heap}
abbrev sMoved : Stmt := topS 32
theorem scMoved : FnScope ["log", "low", "high", "found", "changes", "change"] ["log", "low", "high"] (defScope sMoved) := ⟨rfl, rfl, rfl, by decide +kernel, rfl, by decide +kernel, by decide +kernel⟩
theorem ok_moved {f : Addr} {fd : FuncData} {kG k : Nat} (F : Fun K "_law_moved" "_law_moved" sMoved f fd) (N : Names mg) (dG : Own P w K mg base "_law_groups" ["log"] kG (spGroups K)) (hG : kG ≤ k) : FnOk P w K mg base CX0 (k + 1) f fd ["log", "low", "high"] (spMoved K) := by
  refine F.ok scMoved (fun vs H Q E h => ?_) (fun cdv A outer s H vs Q E hr h => ?_)
  · obtain ⟨l, ks, ds, lo, hi, rfl, _⟩ := h
    rfl
  · obtain ⟨l, ks, ds, lo, hi, rfl, hl, h64, hz, lh, q⟩ := h
    refine ⟨_, (pss_cons (ps_set (i := 3) scMoved.nd rfl (.inl rfl) pe_dnewK)
      (pss_cons (ps_for PassesOwn.never rfl (pi_list (pe_slice sl_list (pe_own dG hr hG (by rfl) (pa_cons (pv 0) pa_nil)) (po_some (pv 1)) (po_some (pv 2)))) (pg_name (i := 4) scMoved.nd rfl (.inl rfl)) (pss_one (ps_for PassesOwn.never rfl (pi_tup (pv 4)) (pg_name (i := 5) scMoved.nd rfl (.inl rfl)) (pss_one (ps_dput (hu_of hr) (pv 3) (pe_ix ix_tup (pv 5) pe_int (fun _ _ => rfl)) pe_bl rfl)))))
      (pss_one (ps_ret (pv 3))))), ?_⟩
    refine s_seq fun D hD => g_name ?_
    dsimp only
    have x1 : Ex H (upd H D (.dK [])) := Ex.new hD
    have hD1 : (upd H D (.dK [])) D = some (.dK []) := upd_same
    generalize hH1 : upd H D (.dK []) = H1 at x1 hD1
    refine s_seq ⟨.ref l, rfl, l, ks, ds, rfl, hl.same x1, hz, fun pg us H2 npg x2 hg dA => ⟨.int (lo : Int), rfl, (lo : Int), rfl, .int (hi : Int), rfl, (hi : Int), rfl, pg, us, rfl, sq_of hg, fun p hp => ⟨p, rfl, ⟨_, sq_of upd_same⟩, ?_⟩⟩⟩
    rw [cut_nat us lo hi lh]
    have hcut := dps_cutM dA lo (hi - lo)
    generalize hcs : (us.drop lo).take (hi - lo) = cs at hcut
    have hes : ((ds.map grD).drop lo).take (hi - lo) = ((ds.drop lo).take (hi - lo)).map grD := by rw [List.map_take, List.map_drop]
    rw [hes] at hcut
    have hge : ∀ d ∈ (ds.drop lo).take (hi - lo), goodEn ks d = true := fun d m => hl.good d (List.mem_of_mem_drop (List.mem_of_mem_take m))
    generalize (ds.drop lo).take (hi - lo) = es at hcut hge q
    have x3 : Ex H2 (upd H2 p (.lst cs)) := Ex.new hp
    have hp3 : (upd H2 p (.lst cs)) p = some (.lst cs) := upd_same
    generalize hH3 : upd H2 p (.lst cs) = H3 at x3 hp3
    have hD3 : H3 D = some (.dK []) := x3 _ _ (x2 _ _ hD1)
    have pD : p ≠ D := fun z => by
      subst z
      rw [hD3] at hp3
      cases hp3
    have x03 := x1.trans (x2.trans x3)
    have dA3 := dps_same x3 _ _ hcut
    have cl : cs.length = es.length := by rw [dps_len hcut, List.length_map]
    refine for_list (K := K) (a := p) (xs := cs) (fun i σ' H' => ∃ y4 y5 kvs, σ' = [some (.ref l), some (.int (lo : Int)), some (.int (hi : Int)), some (.ref D), y4, y5] ∧ Bar D H3 H' ∧ H' D = some (.dK kvs) ∧ MI ks kvs (fun k => ∃ c ∈ lgD (es.take i), c.1 = k)) ⟨none, none, [], rfl, Bar.refl D H3, hD3, MI.nil.iff fun k => ⟨fun z => z.elim, fun ⟨c, m, _⟩ => by cases m⟩⟩ (fun i σ' H' _ ⟨_, _, _, _, b, _⟩ => sq_of (b p _ pD hp3)) ?_ ?_
    · rintro i x σ' H' hx ⟨y4, y5, kvs, rfl, b, hDk, mi⟩
      obtain ⟨g, hgd, hxg⟩ := dps_at (dps_bar hD3 b _ _ dA3) hx
      rw [List.getElem?_map] at hgd
      obtain ⟨d, hd, rfl⟩ := Option.map_eq_some_iff.mp hgd
      have htk : es.take (i + 1) = es.take i ++ [d] := by
        rw [List.take_succ, hd]
        rfl
      have hgc : ∀ c ∈ chsD d, goodCh ks c = true := by
        rcases en_kind (hge d (List.mem_of_getElem? hd)) with ⟨cs, rfl, h⟩ | ⟨s, i, j, rfl, _⟩
        · exact h
        · exact fun c m => by cases m
      refine g_name ?_
      dsimp only
      unfold grD at hxg
      cases hxg with
      | @tup qa vs _ hq hc =>
        refine ⟨.ref qa, rfl, qa, rfl, ⟨vs, hq⟩, ?_⟩
        refine for_tup (K := K) (a := qa) (xs := vs) (fun j σ2 H2 => ∃ y5 kvs2, σ2 = [some (.ref l), some (.int (lo : Int)), some (.int (hi : Int)), some (.ref D), some (.ref qa), y5] ∧ Bar D H' H2 ∧ H2 D = some (.dK kvs2) ∧ MI ks kvs2 (fun k => (∃ c ∈ lgD (es.take i), c.1 = k) ∨ ∃ c ∈ ((chsD d).map chD).take j, c.1 = k)) ⟨y5, kvs, rfl, Bar.refl D H', hDk, mi.iff fun k => ⟨.inl, fun z => z.elim id fun ⟨c, m, _⟩ => by cases m⟩⟩ ?_ ?_ ?_
        · rintro j σ2 H2 _ ⟨_, _, _, b2, _⟩
          exact bar_t hDk b2 hq
        · rintro j y σ2 H2 hy ⟨z5, kvs2, rfl, b2, hD2, mi2⟩
          obtain ⟨c, hcc, hyc⟩ := dps_at (dps_bar hDk b2 _ _ hc) hy
          have hj : ((chsD d).map chD).take (j + 1) = ((chsD d).map chD).take j ++ [chD c] := by
            rw [List.take_succ, List.getElem?_map, hcc]
            rfl
          have hz2 : kvs2.length < sizeLine := sz_lt (by have := mi2.len; omega)
          have key : ∃ (kk : Int) (pa : Addr) (u0 : V) (rest : List V), y = .ref pa ∧ SqT K H2 pa (u0 :: .int kk :: rest) ∧ kk ∈ ks ∧ (chD c).1 = kk := by
            rcases ch_kind (hgc c (List.mem_of_getElem? hcc)) with ⟨kk, rfl, mk⟩ | ⟨kk, zz, rfl, mk⟩
            · obtain ⟨pa, u0, u1, rfl, ht, h0, h1⟩ := dpt2 hyc
              cases h1
              exact ⟨kk, pa, u0, [], rfl, ht, mk, rfl⟩
            · obtain ⟨pa, u0, u1, u2, rfl, ht, h0, h1, h2⟩ := dpt3 hyc
              cases h1
              exact ⟨kk, pa, u0, [u2], rfl, ht, mk, rfl⟩
          obtain ⟨kk, pa, u0, rest, rfl, ht, mk, ek⟩ := key
          refine g_name ?_
          dsimp only
          refine ⟨.ref D, rfl, ev_ix1 (ev_var rfl) ht H2 (Ex.refl H2) _ fun H5 x5 => ⟨D, _, rfl, DPut.k (k := .inl kk) (x5 D _ hD2) hz2, ?_⟩⟩
          refine ⟨_, _, rfl, (b2.trans (Bar.ex x5)).put, upd_same, (mi2.put mk).iff fun k => ?_⟩
          rw [hj]
          constructor
          · rintro ((h | ⟨c', m, e⟩) | h)
            · exact .inl h
            · exact .inr ⟨c', List.mem_append_left _ m, e⟩
            · exact .inr ⟨chD c, List.mem_append_right _ (List.mem_singleton_self _), ek.trans h.symm⟩
          · rintro (h | ⟨c', m, e⟩)
            · exact .inl (.inl h)
            · rcases List.mem_append.mp m with m | m
              · exact .inl (.inr ⟨c', m, e⟩)
              · rw [List.mem_singleton.mp m] at e
                exact .inr (e.symm.trans ek)
        · rintro σ2 H2 ⟨z5, kvs2, rfl, b2, hD2, mi2⟩
          rw [dps_len hc, ← List.length_map (f := chD), List.take_length] at mi2
          refine ⟨_, _, kvs2, rfl, b.trans b2, hD2, mi2.iff fun k => ?_⟩
          rw [htk, lgD_snoc]
          constructor
          · rintro (⟨c, m, e⟩ | ⟨c, m, e⟩)
            · exact ⟨c, List.mem_append_left _ m, e⟩
            · exact ⟨c, List.mem_append_right _ m, e⟩
          · rintro ⟨c, m, e⟩
            rcases List.mem_append.mp m with m | m
            · exact .inl ⟨c, m, e⟩
            · exact .inr ⟨c, m, e⟩
    · rintro σ' H' ⟨y4, y5, kvs, rfl, b, hDk, mi⟩
      rw [cl, List.take_length] at mi
      exact ⟨.ref D, rfl, q D kvs H' hD (b.exOf x03 hD) hDk mi⟩
end
section
variable {P : Program} {w : World} {K : PySem.W.Frag} {mg : Str → Option Value} {base : Heap}
abbrev sPl : Stmt := topS 10
theorem scPl : FnScope ["log", "place"] ["log", "place"] (defScope sPl) := ⟨rfl, rfl, rfl, by decide +kernel, rfl, by decide +kernel, by decide +kernel⟩
theorem ok_place {f : Addr} {fd : FuncData} {k : Nat} (F : Fun K "check_place" "check_place" sPl f fd) (N : Names mg) : FnOk P w K mg base CX0 (k + 1) f fd ["log", "place"] (spPlace K) := by
  refine F.ok scPl (fun vs H Q E h => ?_) (fun cdv A outer s H vs Q E hr h => ?_)
  · obtain ⟨l, us, n, rfl, _⟩ := h
    rfl
  · obtain ⟨l, us, n, rfl, hs, hn, q⟩ := h
    refine ⟨_, pss_one (ps_if (pt_not (pt_chain op_le op_le pe_int (pv 1) (pe_callB call_len_seq (by rfl) N.len PySem.boot_len (pa_cons (pv 0) pa_nil)))) pss_never pss_nil), ?_⟩
    exact s_if (b := false) (et_is (et_not (et_test (ev_chain (p := fun i j => decide (i ≤ j)) (p' := fun i j => decide (i ≤ j)) ev_c (ev_var rfl) (ev_len (ev_var rfl) hs)))) (by
      rw [decide_eq_true (by omega), decide_eq_true (by omega)]
      rfl)) (fun e => by cases e) fun _ H1 x1 => s_next (q H1 x1)
theorem good_key {ks : List Int} {c : PyData} (h : goodCh ks c = true) : (chD c).1 ∈ ks := by
  rcases ch_kind h with ⟨k, rfl, m⟩ | ⟨k, z, rfl, m⟩ <;> exact m
theorem lg_keys {ks : List Int} {ds : List PyData} (h : ∀ d ∈ ds, goodEn ks d = true) : ∀ c ∈ lgD ds, c.1 ∈ ks := fun c m => by
  obtain ⟨d, md, mc⟩ := List.mem_flatMap.mp m
  obtain ⟨x, mx, rfl⟩ := List.mem_map.mp mc
  rcases en_kind (h d md) with ⟨cs, rfl, hc⟩ | ⟨s, i, j, rfl, _⟩
  · exact good_key (hc x mx)
  · cases mx
abbrev sCd : Stmt := topS 13
theorem scCd : FnScope ["log", "low", "high", "change", "entry"] ["log", "low", "high"] (defScope sCd) := ⟨rfl, rfl, rfl, by decide +kernel, rfl, by decide +kernel, by decide +kernel⟩
theorem ok_changed {f : Addr} {fd : FuncData} {kP kC k : Nat} (F : Fun K "changed" "changed" sCd f fd) (N : Names mg) (dP : Own P w K mg base "check_place" ["log", "place"] kP (spPlace K)) (hP : kP ≤ k) (dC : Own P w K mg base "changes_of" ["entry"] kC (spChsOf K)) (hC : kC ≤ k) : FnOk P w K mg base CX0 (k + 1) f fd ["log", "low", "high"] (spChanged K) := by
  refine F.ok scCd (fun vs H Q E h => ?_) (fun cdv A outer s H vs Q E hr h => ?_)
  · obtain ⟨l, ks, ds, lo, hi, rfl, _⟩ := h
    rfl
  · obtain ⟨l, ks, ds, lo, hi, rfl, h64, hl, h1, h2, q⟩ := h
    refine ⟨_, (pss_cons (ps_expr (pe_own dP hr hP (by rfl) (pa_cons (pv 0) (pa_cons (pv 1) pa_nil))))
      (pss_cons (ps_expr (pe_own dP hr hP (by rfl) (pa_cons (pv 0) (pa_cons (pv 2) pa_nil))))
      (pss_one (ps_ret (pe_callB (cr_sortedSetA rfl) (by rfl) N.sorted boot_sorted (pa_cons (pe_sc2 (own := [("entry", 4), ("change", 3)]) (vs1 := [3]) (g := gName 4) (tt := tYes) (g1 := gName 3) (tt1 := tYes) (te := tOp (rIxT K) (tVar 3) (tC (.int 1))) (wi1 := iTup K (tCall (spChsOf K) [] E0 (tCons (tVar 4) tNil))) rfl scCd.nd (pi_list (pe_slice sl_list (pv 0) (po_some (pv 1)) (po_some (pv 2)))) (blkOk_by (N := ["log", "low", "high", "change", "entry"]) (sc := defScope sCd) (by decide +kernel)) (by decide) (fun _ _ _ _ _ => ⟨⟨pg_name (i := 4) scCd.nd rfl (Or.inl rfl), pts_nil⟩, ⟨pi_tup (pe_own dC hr hC (by rfl) (pa_cons (pv 4) pa_nil)), pg_name (i := 3) scCd.nd rfl (Or.inl rfl), pts_nil⟩, (pe_ix ix_tup (pv 3) pe_int (fun _ _ => rfl))⟩)) pa_nil)))))), ?_⟩
    obtain ⟨us, hs, hA⟩ := hl.ex
    have hlen := dps_len hA
    refine s_seq ⟨.ref l, rfl, .int (lo : Int), rfl, l, us, lo, rfl, hs, by omega, fun H1 x1 => ?_⟩
    refine s_seq ⟨.ref l, rfl, .int (hi : Int), rfl, l, us, hi, rfl, Evl.ex_l x1 hs, by omega, fun H2 x2 => ?_⟩
    have hcut := dps_cutN hA lo (hi - lo)
    have ecut := cut_nat us lo hi h1
    generalize hcs : (us.drop lo).take (hi - lo) = cs at hcut ecut
    generalize hes : (ds.drop lo).take (hi - lo) = es at hcut q
    have hge : ∀ d ∈ es, goodEn ks d = true := fun d m => hl.good d (List.mem_of_mem_drop (List.mem_of_mem_take (hes ▸ m)))
    have hcl := dps_len hcut
    refine ⟨.ref l, rfl, .int (lo : Int), rfl, (lo : Int), rfl, .int (hi : Int), rfl, (hi : Int), rfl, l, us, rfl, Evl.ex_l (x1.trans x2) hs, fun p hp => ⟨p, rfl, ⟨_, sq_of upd_same⟩, fun D hD => ?_⟩⟩
    rw [ecut] at hD ⊢
    have x3 : Ex H2 (upd H2 p (.lst cs)) := Ex.new hp
    generalize hH3 : upd H2 p (.lst cs) = H3 at x3 hD ⊢
    have hp3 : H3 p = some (.lst cs) := by rw [← hH3]; exact upd_same
    have xA := (x1.trans x2).trans x3
    have hcut3 := dps_same xA _ _ hcut
    have few : ∀ (l : List Int) (i : Nat), l.Nodup → (∀ k, k ∈ l → ∃ c ∈ lgD es, c.1 = k) → l.length < 64 := fun l i nd h => by
      have := len_sub (m := ks) nd fun x m => by
        obtain ⟨c, mc, e⟩ := h x m
        exact e ▸ lg_keys hge c mc
      omega
    refine sc_list (K := K) (a := p) (xs := cs) (fun i H' => ∃ l, Ex H3 H' ∧ Has w D H' l ∧ ∀ k, k ∈ l ↔ ∃ c ∈ lgD (es.take i), c.1 = k) ⟨[], Ex.new hD, ⟨by rw [upd_same]; rfl, List.nodup_nil⟩, fun k => ⟨fun m => (by cases m), fun ⟨c, m, _⟩ => (by cases m)⟩⟩ ?_ ?_ ?_
    · rintro i H' _ ⟨_, x4, _⟩
      exact sq_of (x4 p _ hp3)
    · rintro i x H' hx ⟨l, x4, hh, hm⟩
      obtain ⟨d, hd, hxd⟩ := dps_at (dps_same x4 _ _ hcut3) hx
      have hgd := hge d (List.mem_of_getElem? hd)
      have htk : es.take (i + 1) = es.take i ++ [d] := by
        rw [List.take_succ, hd]
        rfl
      have hgc : ∀ c ∈ chsD d, goodCh ks c = true := by
        rcases en_kind hgd with ⟨cs, rfl, h⟩ | ⟨s, i, j, rfl, _⟩
        · exact h
        · exact fun c m => by cases m
      refine ⟨rfl, ?_⟩
      refine iteT (B := ∃ l, Ex H3 H' ∧ Has w D H' l ∧ ∀ k, k ∈ l ↔ ∃ c ∈ lgD (es.take (i + 1)), c.1 = k) ?_
      refine ⟨x, rfl, x, d, ks, rfl, hxd, hgd, fun a vs H4 x5 ha hvs => ⟨a, rfl, ⟨vs, ha⟩, ?_⟩⟩
      have nt : NT H4 D := NT.set (x5 D _ hh.1)
      refine sc_tup (K := K) (a := a) (xs := vs) (fun j H5 => ∃ l2, Ex H3 H5 ∧ Bar D H4 H5 ∧ Has w D H5 l2 ∧ ∀ k, k ∈ l2 ↔ k ∈ l ∨ ∃ c ∈ ((chsD d).map chD).take j, c.1 = k) ⟨l, x4.trans x5, Bar.refl D H4, ⟨x5 D _ hh.1, hh.2⟩, fun k => ⟨.inl, fun z => z.elim id fun ⟨c, m, _⟩ => (by cases m)⟩⟩ ?_ ?_ ?_
      · rintro j H5 _ ⟨_, _, b5, _⟩
        exact nt_t nt b5 ha
      · rintro j y H5 hy ⟨l2, x6, b5, hh2, hm2⟩
        obtain ⟨c, hc, hyc⟩ := dps_at hvs hy
        have hg := hgc c (List.mem_of_getElem? hc)
        have hyc5 := dp_nt nt b5 1 _ _ (nl_ch hg) hyc
        have hj : ((chsD d).map chD).take (j + 1) = ((chsD d).map chD).take j ++ [chD c] := by
          rw [List.take_succ, List.getElem?_map, hc]
          rfl
        obtain ⟨pa, kk, xs, rfl, ht, ek⟩ : ∃ (pa : Addr) (kk : Int) (xs : List V), y = .ref pa ∧ SqT K H5 pa (xs) ∧ xs[1]? = some (.int kk) ∧ (chD c).1 = kk := by
          rcases ch_kind hg with ⟨kk, rfl, mk⟩ | ⟨kk, zz, rfl, mk⟩
          · obtain ⟨pa, u0, u1, rfl, ht, h0, h1⟩ := dpt2 hyc5
            cases h1
            exact ⟨pa, kk, _, rfl, ht, rfl, rfl⟩
          · obtain ⟨pa, u0, u1, u2, rfl, ht, h0, h1, h2⟩ := dpt3 hyc5
            cases h1
            exact ⟨pa, kk, _, rfl, ht, rfl, rfl⟩
        refine ⟨rfl, ?_⟩
        refine iteT (B := ∃ l2, Ex H3 H5 ∧ Bar D H4 H5 ∧ Has w D H5 l2 ∧ ∀ k, k ∈ l2 ↔ k ∈ l ∨ ∃ c ∈ ((chsD d).map chD).take (j + 1), c.1 = k) ?_
        refine ⟨.ref pa, rfl, pa, xs, 1, .int kk, rfl, rfl, ht, atI_nat (j := 1) ek.1, kk, _, _, rfl, hh2.1, ?_, ?_⟩
        · have := few l2 i hh2.2 fun k m => by
            rcases (hm2 k).mp m with z | ⟨c', m', e'⟩
            · obtain ⟨c', m', e'⟩ := (hm k).mp z
              refine ⟨c', ?_, e'⟩
              obtain ⟨d', md, mc⟩ := List.mem_flatMap.mp m'
              exact List.mem_flatMap.mpr ⟨d', List.mem_of_mem_take md, mc⟩
            · exact ⟨c', List.mem_flatMap.mpr ⟨d, List.mem_of_getElem? hd, List.mem_of_mem_take m'⟩, e'⟩
          unfold scanBound
          omega
        · obtain ⟨l3, hm3, hh3⟩ := hh2.more kk
          refine ⟨l3, x6.mut hD, b5.put, hh3 H5, fun k => ?_⟩
          rw [hm3, hm2, hj]
          constructor
          · rintro ((z | ⟨c', m', e'⟩) | e)
            · exact .inl z
            · exact .inr ⟨c', List.mem_append_left _ m', e'⟩
            · exact .inr ⟨chD c, List.mem_append_right _ (List.mem_singleton.mpr rfl), ek.2.trans e.symm⟩
          · rintro (z | ⟨c', m', e'⟩)
            · exact .inl (.inl z)
            · rcases List.mem_append.mp m' with m' | m'
              · exact .inl (.inr ⟨c', m', e'⟩)
              · rw [List.mem_singleton.mp m'] at e'
                exact .inr (e'.symm.trans ek.2)
      · rintro H5 ⟨l2, x6, b5, hh2, hm2⟩
        refine ⟨l2, x6, hh2, fun k => ?_⟩
        rw [hm2, hm, htk, lgD_snoc, dps_len hvs, ← List.length_map (f := chD), List.take_length]
        constructor
        · rintro (⟨c, m, e⟩ | ⟨c, m, e⟩)
          · exact ⟨c, List.mem_append_left _ m, e⟩
          · exact ⟨c, List.mem_append_right _ m, e⟩
        · rintro ⟨c, m, e⟩
          rcases List.mem_append.mp m with m | m
          · exact .inl ⟨c, m, e⟩
          · exact .inr ⟨c, m, e⟩
    · rintro H' ⟨l, x4, hh, hm⟩
      rw [hcl, List.take_length] at hm
      refine ⟨D, _, _, rfl, hh.1, fun ns t pw mem hl' ht => ?_⟩
      have tn : H t = none := fresh_back (xA.trans x4) ht
      refine q t ns _ tn ((xA.trans x4).trans (Ex.new ht)) upd_same pw fun k => ?_
      rw [mem, decide_eq_true_eq, hm]
end
end K29
namespace K29
open PySem L2 PyProof.Rows Tc Evl
/-- an event: place, word, key, worth -/
abbrev Evt := Int × Str × Int × Option Int
def opD : Option Int → PyData
  | some z => .int z
  | none => .none
def evD (e : Evt) : PyData := .tuple [.int e.1, .str e.2.1, .int e.2.2.1, opD e.2.2.2]
def wordOf (o : Option Int) : Str := if o.isSome then "put" else "drop"
theorem word_ne (o : Option Int) : wordOf o ≠ "copy" := by
  unfold wordOf
  split <;> decide
def evC (i : Int) (c : Int × Option Int) : Evt := (i, wordOf c.2, c.1, c.2)
/-- what is to be given out for entries, the first of them at place i -/
def duesF : Nat → List PyData → List Evt
  | _, [] => []
  | i, d :: ds => (enD d).map (evC ((i : Int) + 1)) ++ duesF (i + 1) ds
theorem duesF_app : ∀ (a b : List PyData) (i : Nat), duesF i (a ++ b) = duesF i a ++ duesF (i + a.length) b
  | [], b, i => by simp [duesF]
  | d :: a, b, i => by
    rw [List.cons_append, duesF, duesF, duesF_app a b (i + 1), List.append_assoc, List.length_cons]
    congr 3
    omega
theorem duesF_at : ∀ (ds : List PyData) (i : Nat), ∀ e ∈ duesF i ds, (i : Int) < e.1 ∧ e.1 ≤ (i : Int) + ds.length ∧ e.2.1 ≠ "copy" ∧ ∃ c ∈ lgD ds, e.2.2 = (c.1, c.2) ∧ e.2.1 = wordOf c.2
  | [], i, e, m => by cases m
  | d :: ds, i, e, m => by
    rcases List.mem_append.mp m with m | m
    · obtain ⟨c, mc, rfl⟩ := List.mem_map.mp m
      refine ⟨?_, ?_, word_ne _, c, List.mem_flatMap.mpr ⟨d, List.mem_cons_self, mc⟩, rfl, rfl⟩
      · show (i : Int) < (i : Int) + 1
        omega
      · show (i : Int) + 1 ≤ _
        rw [List.length_cons]
        omega
    · obtain ⟨h1, h2, h3, c, mc, e1, e2⟩ := duesF_at ds (i + 1) e m
      rw [List.length_cons]
      obtain ⟨d', md, mx⟩ := List.mem_flatMap.mp mc
      exact ⟨by omega, by omega, h3, c, List.mem_flatMap.mpr ⟨d', List.mem_cons_of_mem _ md, mx⟩, e1, e2⟩
def dues (ds : List PyData) (st : Nat) : List Evt := duesF st (ds.drop st)
/-- those up to a place -/
def duesTo (ds : List PyData) (st p : Nat) : List Evt := duesF st ((ds.drop st).take (p - st))
theorem duesTo_end {ds : List PyData} {st : Nat} : duesTo ds st ds.length = dues ds st := by
  unfold duesTo dues
  rw [List.take_of_length_le (by rw [List.length_drop]; omega)]
theorem duesTo_start {ds : List PyData} {st : Nat} : duesTo ds st st = [] := by
  unfold duesTo
  rw [Nat.sub_self, List.take_zero]
  rfl
theorem duesTo_succ {ds : List PyData} {st p : Nat} {d : PyData} (h : st ≤ p) (hd : ds[p]? = some d) : duesTo ds st (p + 1) = duesTo ds st p ++ (enD d).map (evC ((p : Int) + 1)) := by
  unfold duesTo
  have e : p + 1 - st = (p - st) + 1 := by omega
  have hl : p < ds.length := (List.getElem?_eq_some_iff.mp hd).1
  have e2 : (ds.drop st)[p - st]? = some d := by
    rw [List.getElem?_drop, ← hd]
    congr 1
    omega
  rw [e, List.take_succ, e2, duesF_app]
  congr 1
  show (enD d).map (evC _) ++ [] = _
  rw [List.append_nil, List.length_take, List.length_drop, Nat.min_eq_left (by omega)]
  congr 2
  have : st + (p - st) = p := by omega
  rw [this]
theorem duesTo_pre {ds : List PyData} {st p : Nat} (h : st ≤ p) : ∃ r, dues ds st = duesTo ds st p ++ r ∧ ∀ d, ds[p]? = some d → ∃ r', r = (enD d).map (evC ((p : Int) + 1)) ++ r' := by
  unfold dues duesTo
  by_cases hl : p < ds.length
  · have e : (ds.drop st) = (ds.drop st).take (p - st) ++ (ds.drop st).drop (p - st) := (List.take_append_drop _ _).symm
    have e2 : (ds.drop st).drop (p - st) = ds[p] :: ds.drop (p + 1) := by
      rw [List.drop_drop, Nat.add_sub_cancel' h, List.drop_eq_getElem_cons hl]
    refine ⟨duesF (st + ((ds.drop st).take (p - st)).length) ((ds.drop st).drop (p - st)), ?_, fun d hd => ?_⟩
    · rw [← duesF_app, List.take_append_drop]
    · rw [e2, List.length_take, List.length_drop, Nat.min_eq_left (by omega), Nat.add_sub_cancel' h]
      rw [List.getElem?_eq_getElem hl] at hd
      cases hd
      exact ⟨_, rfl⟩
  · refine ⟨[], ?_, fun d hd => ?_⟩
    · rw [List.append_nil, List.take_of_length_le (by rw [List.length_drop]; omega)]
    · have := (List.getElem?_eq_some_iff.mp hd).1
      omega
/-- is this key changed by entries from one place up to another one -/
def mvd (ds : List PyData) (lo hi : Nat) (k : Int) : Prop := ∃ c ∈ lgD ((ds.drop lo).take (hi - lo)), c.1 = k
theorem mvd_same {ds : List PyData} {lo : Nat} {k : Int} : ¬ mvd ds lo lo k := fun ⟨c, m, _⟩ => by
  rw [Nat.sub_self, List.take_zero] at m
  cases m
theorem mvd_cut {ds : List PyData} {lo p hi : Nat} (h1 : lo ≤ p) (h2 : p ≤ hi) (k : Int) : mvd ds lo hi k ↔ mvd ds lo p k ∨ mvd ds p hi k := by
  have e : (ds.drop lo).take (hi - lo) = (ds.drop lo).take (p - lo) ++ (ds.drop p).take (hi - p) := by
    have a : hi - lo = (p - lo) + (hi - p) := by omega
    rw [a, List.take_add, List.drop_drop, Nat.add_sub_cancel' h1]
  unfold mvd
  rw [e, lgD_app]
  constructor
  · rintro ⟨c, m, ek⟩
    rcases List.mem_append.mp m with m | m
    · exact .inl ⟨c, m, ek⟩
    · exact .inr ⟨c, m, ek⟩
  · rintro (⟨c, m, ek⟩ | ⟨c, m, ek⟩)
    · exact ⟨c, List.mem_append_left _ m, ek⟩
    · exact ⟨c, List.mem_append_right _ m, ek⟩
/-- where a walk is: its place, how many were given, which keys were copied -/
structure WkS where
  at' : Nat
  g : Nat
  cop : List Int
open Classical in
/-- one event more; none where it is wrong -/
noncomputable def acc (rs : List (Int × Int)) (ds : List PyData) (st : Nat) (s : WkS) (e : Evt) : Option WkS :=
  if (s.at' : Int) ≤ e.1 ∧ e.1 ≤ (ds.length : Int) then
    if e.2.1 = "copy" then
      if mvd ds st e.1.toNat e.2.2.1 ∨ e.2.2.1 ∈ s.cop ∨ e.2.2.2 = none ∨ worthsAt rs ds e.1.toNat e.2.2.1 ≠ e.2.2.2 then none
      else some ⟨e.1.toNat, s.g, s.cop ++ [e.2.2.1]⟩
    else if (dues ds st)[s.g]? = some e then some ⟨e.1.toNat, s.g + 1, s.cop⟩ else none
  else none
noncomputable def wrong (rs : List (Int × Int)) (ds : List PyData) (st : Nat) : WkS → Nat → List Evt → Option Nat
  | _, _, [] => none
  | s, n, e :: es => match acc rs ds st s e with
    | none => some n
    | some s' => wrong rs ds st s' (n + 1) es
noncomputable def runW (rs : List (Int × Int)) (ds : List PyData) (st : Nat) : WkS → List Evt → Option WkS
  | s, [] => some s
  | s, e :: es => match acc rs ds st s e with
    | none => none
    | some s' => runW rs ds st s' es
section
variable {rs : List (Int × Int)} {ds : List PyData} {st : Nat}
theorem runW_app : ∀ (a b : List Evt) (s : WkS), runW rs ds st s (a ++ b) = (runW rs ds st s a).bind fun s' => runW rs ds st s' b
  | [], b, s => rfl
  | e :: a, b, s => by
    rw [List.cons_append, runW, runW]
    cases acc rs ds st s e with
    | none => rfl
    | some s' => exact runW_app a b s'
theorem wrong_run : ∀ (es : List Evt) (s s' : WkS) (n : Nat), runW rs ds st s es = some s' → wrong rs ds st s n es = none
  | [], s, s', n, h => rfl
  | e :: es, s, s', n, h => by
    rw [runW] at h
    rw [wrong]
    cases ha : acc rs ds st s e with
    | none => rw [ha] at h; cases h
    | some s2 =>
      rw [ha] at h
      exact wrong_run es s2 s' (n + 1) h
/-- from here on it is none of the first i -/
theorem wrong_take : ∀ (i : Nat) (es : List Evt) (s s' : WkS) (n : Nat), runW rs ds st s (es.take i) = some s' → wrong rs ds st s n es = wrong rs ds st s' (n + min i es.length) (es.drop i)
  | 0, es, s, s', n, h => by
    rw [List.take_zero] at h
    cases h
    rw [Nat.zero_min, Nat.add_zero, List.drop_zero]
  | i + 1, [], s, s', n, h => by
    cases h
    rfl
  | i + 1, e :: es, s, s', n, h => by
    rw [List.take_succ_cons, runW] at h
    rw [wrong]
    cases ha : acc rs ds st s e with
    | none => rw [ha] at h; cases h
    | some s2 =>
      rw [ha] at h
      dsimp only
      rw [wrong_take i es s2 s' (n + 1) h, List.drop_succ_cons, List.length_cons]
      congr 1
      omega
theorem run_snoc {es : List Evt} {s s1 : WkS} {i : Nat} {e : Evt} (h : runW rs ds st s (es.take i) = some s1) (he : es[i]? = some e) : runW rs ds st s (es.take (i + 1)) = acc rs ds st s1 e := by
  rw [List.take_succ, he, runW_app, h]
  show runW rs ds st s1 [e] = _
  rw [runW]
  cases acc rs ds st s1 e <;> rfl
theorem wrong_here {es : List Evt} {s s1 : WkS} {i : Nat} {e : Evt} (h : runW rs ds st s (es.take i) = some s1) (he : es[i]? = some e) (ha : acc rs ds st s1 e = none) : wrong rs ds st s 0 es = some i := by
  have hi : i < es.length := (List.getElem?_eq_some_iff.mp he).1
  rw [wrong_take i es s s1 0 h, List.drop_eq_getElem_cons hi, wrong]
  rw [List.getElem?_eq_getElem hi] at he
  cases he
  rw [ha]
  show some (0 + min i es.length) = _
  congr 1
  omega
theorem run_at {es : List Evt} : ∀ {s s1 : WkS}, runW rs ds st s es = some s1 → s.at' ≤ s1.at' ∧ (s.at' ≤ ds.length → s1.at' ≤ ds.length) ∧ s1.cop.length ≤ s.cop.length + es.length ∧ s1.g ≤ s.g + es.length := by
  induction es with
  | nil =>
    intro s s1 h
    cases h
    exact ⟨Nat.le_refl _, id, Nat.le_refl _, Nat.le_refl _⟩
  | cons e es ih =>
    intro s s1 h
    rw [runW] at h
    cases ha : acc rs ds st s e with
    | none => rw [ha] at h; cases h
    | some s2 =>
      rw [ha] at h
      obtain ⟨h1, h2, h3, h4⟩ := ih h
      have h5 : s2.at' = e.1.toNat ∧ (s.at' : Int) ≤ e.1 ∧ e.1 ≤ (ds.length : Int) ∧ s2.cop.length ≤ s.cop.length + 1 ∧ s2.g ≤ s.g + 1 := by
        unfold acc at ha
        split at ha
        · rename_i c0
          split at ha
          · split at ha
            · cases ha
            · cases ha
              exact ⟨rfl, c0.1, c0.2, by simp, Nat.le_succ _⟩
          · split at ha
            · cases ha
              exact ⟨rfl, c0.1, c0.2, Nat.le_succ _, Nat.le_refl _⟩
            · cases ha
        · cases ha
      rw [List.length_cons]
      exact ⟨by omega, fun _ => h2 (by omega), by omega, by omega⟩
end
theorem eqv_op (a b : Option Int) : PyData.eqv (opD a) (opD b) = decide (a = b) := by
  cases a with
  | none => cases b <;> simp [opD, PyData.eqv]
  | some x =>
    cases b with
    | none => simp [opD, PyData.eqv]
    | some y =>
      simp only [opD, PyData.eqv, Option.some.injEq]
      by_cases z : x = y <;> simp [z]
theorem eqv_ev (a b : Evt) : PyData.eqv (evD a) (evD b) = decide (a = b) := by
  obtain ⟨p, w, k, x⟩ := a
  obtain ⟨p', w', k', x'⟩ := b
  unfold evD
  simp only [PyData.eqv, PyData.eqvAll, eqv_op, Prod.mk.injEq]
  by_cases e1 : p = p' <;> by_cases e2 : w = w' <;> by_cases e3 : k = k' <;> by_cases e4 : x = x' <;> simp [e1, e2, e3, e4]
theorem nl_ev (e : Evt) : nl 1 (evD e) = true := by
  obtain ⟨p, w, k, x⟩ := e
  cases x <;> rfl
end K29
/-! enumerate(list, start=k) -/
namespace Tc
open PySem PySem.Spec PyProof.Rows L2
/-- the list at a, each item in a new pair with its number, from k on -/
def Itcl (K : PySem.W.Frag) (a : Addr) (k : Int) : It :=
  ⟨fun i H => ∃ (xs : List V) (x : V), SqL K H a xs ∧ xs[i]? = some x, fun i H v H' => ∃ (T : Addr) (x : V), v = .ref T ∧ H T = none ∧ H' = upd H T (.tup [.int (k + (i : Int)), x]) ∧ ∀ xs, SqL K H a xs → xs[i]? = some x,
    fun i H => ∃ xs : List V, SqL K H a xs ∧ xs.length = i⟩
/-- how the counter at e and the list's iterator at it stand -/
def CntL (a e it : Addr) (k : Int) (i : Nat) (h : Heap) : Prop := (∃ old, IsEnum h e it (k + (i : Int)) old) ∧ h.IsListIter it a i ∧ e ≠ it
theorem CntL.apart {a e it : Addr} {k : Int} {i : Nat} {h : Heap} {items : Array Value} (c : CntL a e it k i h) (t : Heap.IsList h a items) : a ≠ it ∧ e ∉ [it, a] := by
  obtain ⟨⟨old, he⟩, ⟨o, ho, hc, _⟩, ne⟩ := c
  obtain ⟨p, hp, pc, _⟩ := t
  refine ⟨fun z => ?_, fun m => ?_⟩
  · subst z
    cases hp.symm.trans ho
    rw [pc] at hc
    exact absurd hc (by decide)
  · rcases List.mem_cons.mp m with z | z
    · exact ne z
    · obtain rfl := List.mem_singleton.mp z
      cases hp.symm.trans he
      exact absurd (show Value.type "enumerate" = Value.type "list" from pc) (by decide)
theorem turn_countL {P : Program} {w : World} {K : PySem.W.Frag} {elts : List Expr} {kk : Nat} {tpos : Pos} (a e it : Addr) (k : Int) : Turn P w K (.Tuple elts kk tpos) (Itcl K a k) [e, it] e (CntL a e it k) where
  mem := List.mem_cons_self
  obj := fun i h ⟨⟨old, he⟩, ⟨o, ho, _, hd⟩, _⟩ b m => by
    rcases List.mem_cons.mp m with rfl | m
    · exact ⟨_, he, fun v z => nomatch z⟩
    · obtain rfl := List.mem_singleton.mp m
      exact ⟨o, ho, fun v z => by rw [hd] at z; cases z⟩
  keep := fun i h h' ⟨⟨old, he⟩, hi, ne⟩ kp => ⟨⟨old, kp e (by simp) _ he⟩, hi.at fun o z => kp it (by simp) o z, ne⟩
  item := by
    intro X hP hw hK hc i pins s σ H E I fp c ⟨xs, x, hq, hx⟩
    subst hP hw hK
    obtain ⟨its, rv, tup0, _⟩ := I.list hq
    have tup := tup0.isList
    obtain ⟨u, hu, ru⟩ := rv.get hx
    have ⟨ai, ef⟩ := c.apart tup
    obtain ⟨⟨old, he⟩, hit, ne⟩ := id c
    have lt : i < its.toArray.size := by
      have := (List.getElem?_eq_some_iff.mp hu).1
      simpa using this
    have le : e < s.heap.objs.size := Heap.lt_size he
    have li : it < s.heap.objs.size := let ⟨_, z, _⟩ := hit; Heap.lt_size z
    refine wpAny_pyNext_enum_itemC (Draws.list (A := X.A.in1) (I.ok.hd hc) it a ai its.toArray) he ⟨hit, tup⟩ lt ne ef fun y h' tk hy out st new size kp => ⟨_, rfl, ?_⟩
    obtain rfl : u = y := Option.some.inj (hu.symm.trans (by simpa using hy))
    refine wpAny_letOwnedTupleGo_enum (s := { s with heap := h', toks := tk + 1 }) out fun h'' he' but => ?_
    have new2 := (but.2 _ (Nat.ne_of_gt le)).trans new
    have inv : Inv X pins σ (upd H s.heap.objs.size (.tup [.int (k + (i : Int)), x])) { s with heap := h'', toks := tk + 1 } :=
      I.turnedNew (ch := [e, it]) (fun b o n z => (but.2 b fun q => n (by simp [q])).trans (kp b o (fun q => n (by simp [q])) (fun q => n (by simp [q])) z)) fp (Nat.le_refl _) ⟨by show 2 ≤ sizeLine; decide, [.int (k + (i : Int)) tk, u], .cons ⟨_, rfl⟩ (.cons ru .nil), ⟨_, new2, rfl, _, rfl⟩⟩
    refine ⟨.ref s.heap.objs.size, _, inv, rfl, ⟨_, x, rfl, I.hok.fresh (Nat.le_refl _), rfl, fun ys hy => I.list_inj hy hq ▸ hx⟩, ⟨⟨u, ?_⟩, st.1.at fun o z => (but.2 it (Ne.symm ne)).trans z, ne⟩, fun b m => ?_⟩
    · rw [show k + ((i + 1 : Nat) : Int) = k + (i : Int) + 1 by omega]
      exact he'
    · have lb : b < s.heap.objs.size := by
        rcases List.mem_cons.mp m with rfl | m
        · exact le
        · exact List.mem_singleton.mp m ▸ li
      exact (upd_ne (Nat.ne_of_lt lb)).trans (fp b m).1
  done := by
    intro X hP hw hK hc i pins s σ H E I fp c ⟨xs, hq, hl⟩
    subst hP hw hK
    obtain ⟨its, rv, tup0, _⟩ := I.list hq
    have tup := tup0.isList
    obtain ⟨g0, g1, g2, g3, g4, g5⟩ := fp it (by simp)
    have n : its.toArray.size = i := by rw [List.size_toArray, ← rv.length]; exact hl
    refine wpAny_pyNext_enum_endD (Draws.list (A := X.A.in1) (I.ok.hd hc) it a (c.apart tup).1 its.toArray) c.1.choose_spec ⟨n.symm ▸ c.2.1, tup⟩ fun h' but => ⟨rfl, I.turned (t' := s.toks) (fun b o nb z => but b o nb z) g0 g1 g3 g4 g5⟩
  self := fun A i s Q E ⟨⟨_, he⟩, _⟩ h => wpAny_pyIter_enum he h
section
variable {X : Cx} {e : Expr} {ta tk : TA} {p pos tpos : Pos} {elts : List Expr} {kk : Nat} {kws : List Keyword}
/-- what stands behind the making of a counter -/
theorem count_onL {pins : List (Addr × Obj)} {σ : L2.St} {H : Hp} {s : Shared} {R : It → Hp → Prop} {a : Addr} {k : Int} {h' : Heap} (I : Inv X pins σ H s) (he : IsEnum h' (s.heap.objs.size + 1) s.heap.objs.size k .none)
    (hit : h'.get? s.heap.objs.size = some { cls := .type "list_iterator", data := .fields #[.ref a, .int 0 0] }) (keep : ∀ b o, s.heap.get? b = some o → h'.get? b = some o) (q : R (Itcl X.K a k) H) :
    wpAny (model X.prog X.w) X.A (pyIter (.ref (s.heap.objs.size + 1))) (PIE X pins σ (.Tuple elts kk tpos) R) X.xe { s with heap := h' } := by
  refine wpAny_pyIter_enum he ⟨_, [s.heap.objs.size + 1, s.heap.objs.size], _, _, H, rfl, I.kept (t' := s.toks) keep, turn_countL a _ _ k, ⟨⟨.none, ?_⟩, ⟨_, hit, rfl, rfl⟩, Nat.succ_ne_self _⟩, fun b m => ?_, q⟩
  · rw [show k + ((0 : Nat) : Int) = k from Int.add_zero k]
    exact he
  · have far : s.heap.objs.size ≤ b := by
      rcases List.mem_cons.mp m with rfl | m
      · exact Nat.le_succ _
      · exact Nat.le_of_eq (List.mem_singleton.mp m).symm
    exact I.fpOk far (I.hok.fresh far)
def iCountKL (K : PySem.W.Frag) (ta tk : TA) : TI := fun σ H R => ta σ H fun vs H1 => tk σ H1 fun zs H2 => ∃ (a : Addr) (xs : List V) (k : Int), vs = [.ref a] ∧ zs = [.int k] ∧ SqL K H2 a xs ∧ -1000000 ≤ k ∧ k ≤ 1000000 ∧ R (Itcl K a k) H2
/-- for n, x in enumerate(list, start=k) -/
theorem pi_countKL (hg : Gl X "enumerate") (hm : X.mg "enumerate" = none) (ha : PA X [e] ta) (hk : PK X kws tk) (hks : (backToKw pos (keywordEach kws X.env)).filterMap (·.1) = [Str.ofString "start"] := by rfl) (hall : (backToKw pos (keywordEach kws X.env)).all (·.1.isSome) = true := by rfl)
    (hnone : (backToKw pos (keywordEach kws X.env)).any (·.1.isNone) = false := by rfl) (hs : backTo pos (starEach [e] X.env) = (false, eval e X.env) :: backTo pos (starEach [] X.env) := by rfl) (hpl : (backTo pos (starEach [e] X.env)).any (·.1) = false := by rfl) :
    PI X (.Tuple elts kk tpos) (.Call (.Name "enumerate" p) [e] kws pos) (iCountKL X.K ta tk) := by
  have n1 : (Str.ofString "enumerate") ≠ "__name__" := by decide
  have n2 : (Str.ofString "enumerate" == ("__debug__" : Str)) = false := by decide
  refine ⟨fun pins s σ H R I h => ?_⟩
  refine wpAny_Call_Name_kw ?_
  refine ld_blt I hg hm boot_enumerate ?_ n1 n2
  refine type_kw hs hall hnone hpl (thn (ha.run pos pins s σ H (fun vs H1 => tk σ H1 fun zs H2 => ∃ (a : Addr) (xs : List V) (k : Int), vs = [.ref a] ∧ zs = [.int k] ∧ SqL X.K H2 a xs ∧ -1000000 ≤ k ∧ k ≤ 1000000 ∧ R (Itcl X.K a k) H2) I h) fun us s1 c1 => ?_)
  obtain ⟨vs, H1, I1, r1, q1⟩ := c1
  refine thn (hk.run pos pins s1 σ H1 _ I1 q1) fun ws s2 c2 => ?_
  obtain ⟨zs, H2, I2, r2, q2⟩ := c2
  obtain ⟨a, xs, k, e1, e2, hq, k0, k1, q⟩ := q2
  subst e1 e2
  rw [hks, Vals.ref1 r1]
  obtain ⟨u, rfl, ru⟩ := vals1 r2
  obtain ⟨t, rfl⟩ := ru
  obtain ⟨its, _, tup0, _⟩ := I2.list hq
  have tup := tup0.isList
  exact enum_begins_start (begins_list a its.toArray) tup (by omega) (by omega) fun h' he hit _ keep => count_onL I2 he hit keep q
end
theorem walk_countL {K : PySem.W.Frag} {a : Addr} {k : Int} {xs : List V} : Walk (Itcl K a k) xs.length (fun H => SqL K H a xs) (YPair (fun i => some (.int (k + (i : Int)))) (fun i => xs[i]?)) :=
  ⟨fun i _ hi q => ⟨xs, xs[i], q, List.getElem?_eq_getElem hi⟩, fun _ q => ⟨xs, q, rfl⟩, fun i H x H' _ q y => by
    obtain ⟨T, z, e1, hT, e2, hy⟩ := y
    exact ⟨T, _, z, e1, hT, e2, rfl, hy xs q⟩⟩
end Tc
namespace K29
open PySem L2 PyProof.Rows Tc Evl
abbrev sIe : Stmt := topS 15
theorem scIe : FnScope ["place", "word", "key", "worth"] ["place", "word", "key", "worth"] (defScope sIe) := ⟨rfl, rfl, rfl, by decide +kernel, rfl, by decide +kernel, by decide +kernel⟩
abbrev sEoc : Stmt := topS 16
theorem scEoc : FnScope ["log", "start", "due", "place", "entry", "change"] ["log", "start"] (defScope sEoc) := ⟨rfl, rfl, rfl, by decide +kernel, rfl, by decide +kernel, by decide +kernel⟩
def isEvB (w : Str) (x : Option Int) : Bool := if w = "drop" then x.isNone else x.isSome
def spIe : Sp := fun vs H Q _ => ∃ (p k : Int) (w : Str) (x : Option Int), vs = [.int p, .str w, .int k, opV x] ∧ 0 ≤ k ∧ k < 1000 ∧ (∀ z, x = some z → 0 ≤ z ∧ z < 1000) ∧ ∀ H', Ex H H' → Q (.bl (isEvB w x)) H'
def spEoc (K : PySem.W.Frag) : Sp := fun vs H Q _ => ∃ (l : Addr) (ks : List Int) (ds : List PyData) (st : Nat), vs = [.ref l, .int (st : Int)] ∧ LogAt K H l ks ds ∧ ds.length ≤ 100 ∧ (∀ d ∈ ds, (chsD d).length ≤ 10) ∧ st ≤ ds.length ∧ ∀ p us H', H p = none → Ex H H' → H' p = some (.lst us) → DpAll K H' us ((dues ds st).map evD) → Q (.ref p) H'
theorem dp_op {K : PySem.W.Frag} {H : Hp} (x : Option Int) : Dp K H (opV x) (opD x) := by
  cases x with
  | none => exact .non
  | some z => exact .int z
theorem cut_drop (us : List V) (n : Nat) (h : n ≤ us.length) : cutV us (some (n : Int)) none = us.drop n := by
  have e : HT.sIx us.length 0 (some (n : Int)) = n := by
    rw [HT.sIx_nat]
    omega
  have e0 : HT.sIx us.length us.length none = us.length := rfl
  unfold cutV
  rw [e, e0]
  exact List.take_of_length_le (by rw [List.length_drop]; omega)
theorem duesF_len : ∀ (ds : List PyData) (i : Nat), (∀ d ∈ ds, (chsD d).length ≤ 10) → (duesF i ds).length ≤ 10 * ds.length
  | [], _, _ => Nat.zero_le _
  | d :: ds, i, h => by
    rw [duesF, List.length_append, List.length_map, List.length_cons]
    have := duesF_len ds (i + 1) fun d' m => h d' (List.mem_cons_of_mem _ m)
    have := h d List.mem_cons_self
    unfold enD
    rw [List.length_map]
    omega
section
variable {P : Program} {w : World} {K : PySem.W.Frag} {mg : Str → Option Value} {base : Heap}
theorem ok_ie {f : Addr} {fd : FuncData} {kN kK kW k : Nat} (F : Fun K "is_event" "is_event" sIe f fd) (dN : Own P w K mg base "is_number" ["thing"] kN (spTold K isNum)) (hN : kN ≤ k) (dK : Own P w K mg base "is_key" ["thing"] kK (spTold K isKey)) (hK : kK ≤ k) (dW : Own P w K mg base "is_worth" ["thing"] kW (spTold K isKey)) (hW : kW ≤ k) : FnOk P w K mg base CX0 (k + 1) f fd ["place", "word", "key", "worth"] spIe := by
  refine F.ok scIe (fun vs H Q E h => ?_) (fun cdv A outer s H vs Q E hr h => ?_)
  · obtain ⟨p, kk, wd, x, rfl, _⟩ := h
    rfl
  · obtain ⟨p, kk, wd, x, rfl, k0, k1, hx, q⟩ := h
    refine ⟨_, (pss_cons (ps_if (PW.pt (pw_or (pt_not (pt_val (pe_own dN hr hN (by rfl) (pa_cons (pv 0) pa_nil)))) (pw_or1 (pt_not (pt_val (pe_own dK hr hK (by rfl) (pa_cons (pv 2) pa_nil))))))) (pss_one (ps_ret pe_bl)) pss_nil)
      (pss_one (ps_ret (pe_ifExp (pt_cmpR op_eq (pv 1) pe_str (nomark _)) (pe_cmpR op_isN1 (pv 3) pe_non (nomark _)) (pe_own dW hr hW (by rfl) (pa_cons (pv 3) pa_nil)))))), ?_⟩
    refine s_seq (s_if (b := false) (et_is (et_or (et_not (et_B (ev_told (ev_var rfl) (Dp.int p)))) fun _ => et_not (et_B (ev_told (ev_var rfl) (Dp.int kk)))) ?_) (fun e => by cases e) fun _ H1 x1 => s_next ?_)
    · show (!true || !(decide (0 ≤ kk) && decide (kk < 1000))) = false
      rw [decide_eq_true k0, decide_eq_true k1]
      rfl
    · by_cases hw : wd = "drop"
      · refine s_ret (ev_if (b := true) (v := .bl (isEvB wd x)) (et_is (et_test (ev_op (ev_var rfl) ev_c (rv_eq rfl))) (by simp [hw])) (fun _ => ?_) fun e => by cases e) fun H' x' => q H' (x1.trans x')
        refine ev_is (ev_op (ev_var rfl) ev_c fun G1 _ Q' q' => ⟨rfl, q' G1 (Ex.refl G1)⟩) ?_
        unfold isEvB
        rw [if_pos hw]
        cases x <;> simp [opV]
      · refine s_ret (ev_if (b := false) (v := .bl (isEvB wd x)) (et_is (et_test (ev_op (ev_var rfl) ev_c (rv_eq rfl))) (by simp [hw])) (fun e => by cases e) fun _ => ?_) fun H' x' => q H' (x1.trans x')
        refine ev_is (ev_told (ev_var rfl) (dp_op x)) ?_
        unfold isEvB
        rw [if_neg hw]
        cases x with
        | none => rfl
        | some z =>
          obtain ⟨z0, z1⟩ := hx z rfl
          show V.bl (decide (0 ≤ z) && decide (z < 1000)) = _
          rw [decide_eq_true z0, decide_eq_true z1]
          rfl
set_option maxHeartbeats 1000000 in
theorem ok_eoc {f : Addr} {fd : FuncData} {kC k : Nat} (F : Fun K "events_of_changes" "events_of_changes" sEoc f fd) (N : Names mg) (dC : Own P w K mg base "changes_of" ["entry"] kC (spChsOf K)) (hC : kC ≤ k) : FnOk P w K mg base CX0 (k + 1) f fd ["log", "start"] (spEoc K) := by
  refine F.ok scEoc (fun vs H Q E h => ?_) (fun cdv A outer s H vs Q E hr h => ?_)
  · obtain ⟨l, ks, ds, st, rfl, _⟩ := h
    rfl
  · obtain ⟨l, ks, ds, st, rfl, hl, dl, cl, sl, q⟩ := h
    refine ⟨_, (pss_cons (ps_set (i := 2) scEoc.nd rfl (.inl rfl) (pe_lst pa_nil))
      (pss_cons (ps_for PassesOwn.never rfl (pi_countKL rfl N.enumerate (pa_cons (pe_slice sl_list (pv 0) (po_some (pv 1)) po_none) pa_nil) (pk_cons (pe_op op_add (pv 1) pe_int) pk_nil)) (pg_tup rfl (pgs_cons (pg_name (i := 3) scEoc.nd rfl (.inl rfl)) (pgs_cons (pg_name (i := 4) scEoc.nd rfl (.inl rfl)) pgs_nil))) (pss_one (ps_for PassesOwn.never rfl (pi_tup (pe_own dC hr hC (by rfl) (pa_cons (pv 4) pa_nil))) (pg_name (i := 5) scEoc.nd rfl (.inl rfl)) (pss_one (ps_expr (pe_bm PySem.F.plainAttrs_list PySem.F.slot_list_append PySem.F.type_list_append mt_append (pv 2) (pa_cons (pe_tup (pa_cons (pv 3) (pa_cons (pe_ix ix_tup (pv 5) pe_int (fun _ _ => rfl)) (pa_cons (pe_ix ix_tup (pv 5) pe_int (fun _ _ => rfl)) (pa_cons (pe_ifExp (pt_cmpR op_eq (pe_ix ix_tup (pv 5) pe_int (fun _ _ => rfl)) pe_str (nomark _)) (pe_ix ix_tup (pv 5) pe_int (fun _ _ => rfl)) pe_non) pa_nil))))) pa_nil)))))))
      (pss_one (ps_ret (pv 2))))), ?_⟩
    obtain ⟨us, hs, hA⟩ := hl.ex
    have hlen := dps_len hA
    refine s_seq ⟨Nat.zero_le _, fun D hD => g_name ?_⟩
    dsimp only
    have x1 : Ex H (upd H D (.lst [])) := Ex.new hD
    have hD1 : (upd H D (.lst [])) D = some (.lst []) := upd_same
    generalize upd H D (.lst []) = H1 at x1 hD1
    refine s_seq ⟨.ref l, rfl, .int (st : Int), rfl, (st : Int), rfl, l, us, rfl, Evl.ex_l x1 hs, fun p hp => ?_⟩
    have ec : cutV us (some (st : Int)) none = us.drop st := cut_drop us st (by omega)
    rw [ec]
    have x2 : Ex H1 (upd H1 p (.lst (us.drop st))) := Ex.new hp
    have hp2 : (upd H1 p (.lst (us.drop st))) p = some (.lst (us.drop st)) := upd_same
    have pD : p ≠ D := fun z => by
      rw [z, hD1] at hp
      cases hp
    generalize upd H1 p (.lst (us.drop st)) = H2 at x2 hp2
    have hD2 := x2 _ _ hD1
    have x02 := x1.trans x2
    have hcut := dps_same x02 _ _ (dps_drop st hA)
    have he : ∀ d ∈ ds.drop st, goodEn ks d = true ∧ (chsD d).length ≤ 10 := fun d m => ⟨hl.good d (List.mem_of_mem_drop m), cl d (List.mem_of_mem_drop m)⟩
    have el : (ds.drop st).length ≤ 100 := by rw [List.length_drop]; omega
    unfold dues at q
    generalize ds.drop st = es at hcut he el q
    generalize us.drop st = cs at hcut hp2
    have clen := dps_len hcut
    refine ⟨.int (st : Int), rfl, (st : Int), 1, rfl, rfl, p, cs, (st : Int) + 1, rfl, rfl, sq_of hp2, by omega, by omega, ?_⟩
    refine for_it (walk_countL (K := K) (a := p) (xs := cs)) (fun i σ' H' => ∃ y3 y4 y5 vs, σ' = [some (.ref l), some (.int (st : Int)), some (.ref D), y3, y4, y5] ∧ Bar D H2 H' ∧ H' D = some (.lst vs) ∧ DpAll K H' vs ((duesF st (es.take i)).map evD)) ⟨none, none, none, [], rfl, Bar.refl D H2, hD2, .nil⟩ (fun i σ' H' _ ⟨_, _, _, _, _, b, _⟩ => sq_of (b p _ pD hp2)) (fun i x σ' H' G' hi h y => ?_) (fun σ' H' h => ?_)
    · obtain ⟨y3, y4, y5, vs, rfl, b, hDv, dV⟩ := h
      obtain ⟨T, x0, xe, rfl, hT, rfl, e1, e2⟩ := y
      cases e1
      obtain ⟨d, hd, hxd⟩ := dps_at hcut e2
      obtain ⟨gd, cd⟩ := he d (List.mem_of_getElem? hd)
      have xT : Ex H' (upd H' T (.tup [.int ((st : Int) + 1 + (i : Int)), xe])) := Ex.new hT
      have hT' : (upd H' T (.tup [.int ((st : Int) + 1 + (i : Int)), xe])) T = some (.tup [.int ((st : Int) + 1 + (i : Int)), xe]) := upd_same
      generalize upd H' T (.tup [.int ((st : Int) + 1 + (i : Int)), xe]) = HT at xT hT'
      refine ⟨T, _, rfl, st_of hT', rfl, _, _, rfl, _, _, rfl, rfl, ?_⟩
      dsimp only
      have hDT := xT _ _ hDv
      have bT : Bar D H2 HT := b.trans (Bar.ex xT)
      have hxd2 : Dp K HT xe d := dp_nl (bs := []) hD2 bT 3 d xe (nl_en gd) hxd
      refine ⟨xe, rfl, xe, d, ks, rfl, hxd2, gd, fun a ws H4 x4 ha hws => ⟨a, rfl, ⟨ws, ha⟩, ?_⟩⟩
      have hD4 := x4 _ _ hDT
      have dV4 := dps_same (xT.trans x4) _ _ dV
      have wl := dps_len hws
      have hgc : ∀ c ∈ chsD d, goodCh ks c = true := by
        rcases en_kind gd with ⟨cs, rfl, h⟩ | ⟨s, i, j, rfl, _⟩
        · exact h
        · exact fun c m => by cases m
      refine for_tup (K := K) (a := a) (xs := ws) (fun j σ2 G => ∃ z5 vs2, σ2 = [some (.ref l), some (.int (st : Int)), some (.ref D), some (.int ((st : Int) + 1 + (i : Int))), some xe, z5] ∧ Bar D H4 G ∧ G D = some (.lst vs2) ∧ DpAll K G vs2 ((duesF st (es.take i)).map evD ++ (((chsD d).take j).map fun c => evD (evC ((st : Int) + 1 + (i : Int)) (chD c))))) ⟨y5, vs, rfl, Bar.refl D H4, hD4, by rw [List.take_zero, List.map_nil, List.append_nil]; exact dV4⟩ (fun j σ2 G _ h => ?_) (fun j y σ2 G hy h => ?_) (fun σ2 G h => ?_)
      · obtain ⟨_, _, _, b2, _⟩ := h
        exact lst_t hD4 b2 ha
      · obtain ⟨z5, vs2, rfl, b2, hDv2, dV2⟩ := h
        obtain ⟨c, hc, hyc⟩ := dps_at hws hy
        have gc := hgc c (List.mem_of_getElem? hc)
        have hyc2 : Dp K G y c := dp_nl hD4 b2 1 c y (nl_ch gc) hyc
        have vlen : vs2.length ≤ 2000 := by
          rw [dps_len dV2, List.length_append, List.length_map, List.length_map, List.length_take]
          have := duesF_len (es.take i) st fun d' m => (he d' (List.mem_of_mem_take m)).2
          rw [List.length_take] at this
          omega
        have key : ∃ (pa : Addr) (wd : Str) (kk : Int) (rest : List V), y = .ref pa ∧ SqT K G pa (.str wd :: .int kk :: rest) ∧ wd = wordOf (chD c).2 ∧ kk = (chD c).1 ∧ (wd = "put" → ∃ z, rest = [.int z] ∧ (chD c).2 = some z) ∧ (wd ≠ "put" → (chD c).2 = none) := by
          rcases ch_kind gc with ⟨kk, rfl, mk⟩ | ⟨kk, zz, rfl, mk⟩
          · obtain ⟨pa, u0, u1, rfl, ht, h0, h1⟩ := dpt2 hyc2
            cases h0
            cases h1
            exact ⟨pa, _, kk, _, rfl, ht, rfl, rfl, fun e => absurd e (by decide), fun _ => rfl⟩
          · obtain ⟨pa, u0, u1, u2, rfl, ht, h0, h1, h2⟩ := dpt3 hyc2
            cases h0
            cases h1
            cases h2
            exact ⟨pa, _, kk, _, rfl, ht, rfl, rfl, fun _ => ⟨zz, rfl, rfl⟩, fun e => absurd rfl e⟩
        obtain ⟨pa, wd, kk, rest, rfl, ht, ew, ek, h1, h2⟩ := key
        refine g_name ?_
        dsimp only
        refine ⟨.ref D, rfl, .inl ⟨rfl, vs2, sq_of hDv2⟩, .int ((st : Int) + 1 + (i : Int)), rfl, ?_⟩
        refine ev_ix0 (ev_var rfl) ht G (Ex.refl G) _ fun G1 g1 => ev_ix1 (ev_var rfl) (Evl.ex_t g1 ht) G1 (Ex.refl G1) _ fun G2 g2 => ?_
        have val : Ev (tIf (tTest (tOp rEq (tOp (rIxT K) (tVar 5) (tC (.int 0))) (tC (.str "put")))) (tOp (rIxT K) (tVar 5) (tC (.int 2))) (tC .non)) [some (.ref l), some (.int (st : Int)), some (.ref D), some (.int ((st : Int) + 1 + (i : Int))), some xe, some (.ref pa)] G2 (opV (chD c).2) := by
          by_cases hp : wd = "put"
          · obtain ⟨z, rfl, ez⟩ := h1 hp
            rw [ez]
            exact ev_if (b := true) (et_is (et_test (ev_op (ev_ix0 (ev_var rfl) (Evl.ex_t (g1.trans g2) ht)) ev_c (rv_eq rfl))) (by simp [hp])) (fun _ => ev_ix2 (ev_var rfl) (Evl.ex_t (g1.trans g2) ht)) fun e => by cases e
          · rw [h2 hp]
            exact ev_if (b := false) (et_is (et_test (ev_op (ev_ix0 (ev_var rfl) (Evl.ex_t (g1.trans g2) ht)) ev_c (rv_eq rfl))) (by simp [hp])) (fun e => by cases e) fun _ => ev_c
        refine val G2 (Ex.refl G2) _ fun G3 g3 => ⟨sz_of (by simp), fun t ht' => ?_⟩
        have xg := (g1.trans g2).trans g3
        have xt : Ex G3 (upd G3 t (.tup [.int ((st : Int) + 1 + (i : Int)), .str wd, .int kk, opV (chD c).2])) := Ex.new ht'
        have tT : (upd G3 t (.tup [.int ((st : Int) + 1 + (i : Int)), .str wd, .int kk, opV (chD c).2])) t = some (.tup [.int ((st : Int) + 1 + (i : Int)), .str wd, .int kk, opV (chD c).2]) := upd_same
        generalize upd G3 t (.tup [.int ((st : Int) + 1 + (i : Int)), .str wd, .int kk, opV (chD c).2]) = G4 at xt tT
        have x4' := xg.trans xt
        refine ⟨D, vs2, .ref t, rfl, rfl, x4' _ _ hDv2, sz_lt (by omega), _, vs2 ++ [.ref t], rfl, (b2.trans (Bar.ex x4')).put, upd_same, ?_⟩
        have etk : (chsD d).take (j + 1) = (chsD d).take j ++ [c] := by
          rw [List.take_succ, hc]
          rfl
        rw [etk, List.map_append, ← List.append_assoc]
        have nE : ∀ e ∈ (duesF st (es.take i)).map evD ++ (((chsD d).take j).map fun c => evD (evC ((st : Int) + 1 + (i : Int)) (chD c))), nl 1 e = true := fun e m => by
          rcases List.mem_append.mp m with m | m
          · obtain ⟨e', _, rfl⟩ := List.mem_map.mp m
            exact nl_ev _
          · obtain ⟨e', _, rfl⟩ := List.mem_map.mp m
            exact nl_ev _
        have hD4' := x4' _ _ hDv2
        have bp : Bar D G4 (upd G4 D (.lst (vs2 ++ [.ref t]))) := (Bar.refl D G4).put
        have dE : Dp K G4 (.ref t) (evD (evC ((st : Int) + 1 + (i : Int)) (chD c))) := by
          unfold evD evC
          rw [← ew, ← ek]
          exact .tup (st_of tT) (.cons (.int _) (.cons (.str _) (.cons (.int _) (.cons (dp_op _) .nil))))
        exact dps_app (dps_each (fun e m v => dp_nl hD4' bp 1 e v (nE e m)) (dps_same x4' _ _ dV2)) (.cons (dp_nl hD4' bp 1 _ _ (nl_ev _) dE) .nil)
      · obtain ⟨z5, vs2, rfl, b2, hDv2, dV2⟩ := h
        rw [wl, List.take_length] at dV2
        refine ⟨_, _, _, vs2, rfl, (bT.trans (Bar.ex x4)).trans b2, hDv2, ?_⟩
        have hi' : i < es.length := (List.getElem?_eq_some_iff.mp hd).1
        have etk : es.take (i + 1) = es.take i ++ [d] := by
          rw [List.take_succ, hd]
          rfl
        have ee : (duesF st (es.take (i + 1))).map evD = (duesF st (es.take i)).map evD ++ ((chsD d).map fun c => evD (evC ((st : Int) + 1 + (i : Int)) (chD c))) := by
          rw [etk, duesF_app, List.map_append, duesF, duesF, List.append_nil, List.map_map]
          congr 1
          unfold enD
          rw [List.map_map, List.length_take, Nat.min_eq_left (by omega)]
          refine List.map_congr_left fun c _ => ?_
          show evD (evC (((st + i : Nat) : Int) + 1) (chD c)) = _
          congr 2
          omega
        rw [ee]
        exact dV2
    · obtain ⟨y3, y4, y5, vs, rfl, b, hDv, dV⟩ := h
      rw [clen, List.take_length] at dV
      refine ⟨.ref D, rfl, q D vs H' hD (b.exOf x02 hD) hDv dV⟩
end
end K29
namespace K29
open PySem L2 PyProof.Rows Tc Evl
abbrev sWalk : Stmt := topS 17
abbrev mWin : Stmt := inClass sWalk 0
abbrev mGo : Stmt := inClass sWalk 1
abbrev mAcc : Stmt := inClass sWalk 2
abbrev mAcp : Stmt := inClass sWalk 3
abbrev sFw : Stmt := topS 18
theorem scWin : FnScope ["self", "table", "log", "start", "key", "worth"] ["self", "table", "log", "start"] (defScope mWin) := ⟨rfl, rfl, rfl, by decide +kernel, rfl, by decide +kernel, by decide +kernel⟩
theorem scGo : FnScope ["self", "place", "key"] ["self", "place"] (defScope mGo) := ⟨rfl, rfl, rfl, by decide +kernel, rfl, by decide +kernel, by decide +kernel⟩
theorem scAcc : FnScope ["self", "event", "place", "word", "key", "worth"] ["self", "event"] (defScope mAcc) := ⟨rfl, rfl, rfl, by decide +kernel, rfl, by decide +kernel, by decide +kernel⟩
theorem scAcp : FnScope ["self", "key", "worth"] ["self", "key", "worth"] (defScope mAcp) := ⟨rfl, rfl, rfl, by decide +kernel, rfl, by decide +kernel, by decide +kernel⟩
theorem scFw : FnScope ["table", "log", "events", "start", "walk", "number", "event"] ["table", "log", "events", "start"] (defScope sFw) := ⟨rfl, rfl, rfl, by decide +kernel, rfl, by decide +kernel, by decide +kernel⟩
def wfl (l du dW dS : Addr) (at_ g : Int) : List (Str × V) := [("log", .ref l), ("at", .int at_), ("due", .ref du), ("many_given", .int g), ("worths", .ref dW), ("settled", .ref dS)]
section
variable {l du dW dS : Addr} {at_ g : Int}
theorem wl_log : (wfl l du dW dS at_ g).lookup ("log" : Str) = some (.ref l) := by simp only [wfl, List.lookup]; rfl
theorem wl_at : (wfl l du dW dS at_ g).lookup ("at" : Str) = some (.int at_) := by simp only [wfl, List.lookup]; rfl
theorem wl_due : (wfl l du dW dS at_ g).lookup ("due" : Str) = some (.ref du) := by simp only [wfl, List.lookup]; rfl
theorem wl_mg : (wfl l du dW dS at_ g).lookup ("many_given" : Str) = some (.int g) := by simp only [wfl, List.lookup]; rfl
theorem wl_worths : (wfl l du dW dS at_ g).lookup ("worths" : Str) = some (.ref dW) := by simp only [wfl, List.lookup]; rfl
theorem wl_settled : (wfl l du dW dS at_ g).lookup ("settled" : Str) = some (.ref dS) := by simp only [wfl, List.lookup]; rfl
theorem wp_at (z : Int) : putF "at" (.int z) (wfl l du dW dS at_ g) = wfl l du dW dS z g := by simp only [wfl, putF]; rfl
theorem wp_mg (z : Int) : putF "many_given" (.int z) (wfl l du dW dS at_ g) = wfl l du dW dS at_ z := by simp only [wfl, putF]; rfl
theorem wl_no (m : Str) (h : (m == ("log" : Str)) = false ∧ (m == ("at" : Str)) = false ∧ (m == ("due" : Str)) = false ∧ (m == ("many_given" : Str)) = false ∧ (m == ("worths" : Str)) = false ∧ (m == ("settled" : Str)) = false) : (wfl l du dW dS at_ g).lookup m = none := by
  obtain ⟨h1, h2, h3, h4, h5, h6⟩ := h
  simp only [wfl, List.lookup, h1, h2, h3, h4, h5, h6]
end
/-- what is known of the class -/
structure WTx (K : PySem.W.Frag) (mg : Str → Option Value) (C : Addr) : Prop where
  cl : Cls K C
  aL : NoAttr K C "log"
  aA : NoAttr K C "at"
  aD : NoAttr K C "due"
  aM : NoAttr K C "many_given"
  aW : NoAttr K C "worths"
  aS : NoAttr K C "settled"
  mgC : mg "Walk" = some (.ref C)
abbrev wX (p dW dS : Addr) : Addr → Prop := fun a => a = p ∨ a = dW ∨ a = dS
/-- a walk at p -/
structure WkAt (K : PySem.W.Frag) (C : Addr) (H : Hp) (p l du dW dS : Addr) (ks : List Int) (rs : List (Int × Int)) (ds : List PyData) (st : Nat) (at_ g : Nat) (S : Int → Prop) : Prop where
  ob : ∃ dx, H p = some (.ins C dx (wfl l du dW dS (at_ : Int) (g : Int)))
  log : LogAt K H l ks ds
  due : ∃ dv, H du = some (.lst dv) ∧ DpAll K H dv ((dues ds st).map evD)
  w : ∃ kvs, H dW = some (.dK kvs) ∧ DI ks kvs (worthsAt rs ds at_)
  se : ∃ svs, H dS = some (.dK svs) ∧ MI ks svs S
  ne : dW ≠ dS
theorem sqL_but {K : PySem.W.Frag} {H H' : Hp} {X : Addr → Prop} {a : Addr} {xs : List V} (hX : ∀ a, X a → ∃ o, H a = some o ∧ (∀ xs, o ≠ .lst xs) ∧ ∀ o' xs, o ≠ .frz o' (.lst xs)) (e : Off X H H') (h : SqL K H a xs) : SqL K H' a xs := by
  rcases h with h | h
  · left
    rcases h with h | ⟨o, h⟩
    · exact .inl (e a _ (fun z => by
        obtain ⟨u, h1, h2, _⟩ := hX a z
        rw [h] at h1
        cases h1
        exact h2 _ rfl) h)
    · exact .inr ⟨o, e a _ (fun z => by
        obtain ⟨u, h1, _, h3⟩ := hX a z
        rw [h] at h1
        cases h1
        exact h3 _ _ rfl) h⟩
  · exact .inr h
section
variable {K : PySem.W.Frag} {C : Addr} {H H' : Hp} {p l du dW dS : Addr} {ks : List Int} {rs : List (Int × Int)} {ds : List PyData} {st at_ g at2 g2 : Nat} {S S2 : Int → Prop}
theorem WkAt.nol (W : WkAt K C H p l du dW dS ks rs ds st at_ g S) : ∀ a, wX p dW dS a → ∃ o, H a = some o ∧ (∀ xs, o ≠ .lst xs) ∧ ∀ o' xs, o ≠ .frz o' (.lst xs) := fun a z => by
  obtain ⟨dx, h1⟩ := W.ob
  obtain ⟨kvs, h2, _⟩ := W.w
  obtain ⟨svs, h3, _⟩ := W.se
  rcases z with rfl | rfl | rfl
  · exact ⟨_, h1, fun xs y => (by cases y), fun o xs y => by cases y⟩
  · exact ⟨_, h2, fun xs y => (by cases y), fun o xs y => by cases y⟩
  · exact ⟨_, h3, fun xs y => (by cases y), fun o xs y => by cases y⟩
theorem WkAt.noT (W : WkAt K C H p l du dW dS ks rs ds st at_ g S) : ∀ a, wX p dW dS a → NoT H a := fun a z => by
  obtain ⟨dx, h1⟩ := W.ob
  obtain ⟨kvs, h2, _⟩ := W.w
  obtain ⟨svs, h3, _⟩ := W.se
  rcases z with rfl | rfl | rfl
  · exact ⟨_, h1, fun xs y => (by cases y), fun o xs y => by cases y⟩
  · exact ⟨_, h2, fun xs y => (by cases y), fun o xs y => by cases y⟩
  · exact ⟨_, h3, fun xs y => (by cases y), fun o xs y => by cases y⟩
theorem WkAt.kt (W : WkAt K C H p l du dW dS ks rs ds st at_ g S) (e : Off (wX p dW dS) H H') : Kt H H' := Off.kt W.noT e
theorem WkAt.to (W : WkAt K C H p l du dW dS ks rs ds st at_ g S) (e : Off (wX p dW dS) H H') (ob : ∃ dx, H' p = some (.ins C dx (wfl l du dW dS (at2 : Int) (g2 : Int)))) (w : ∃ kvs, H' dW = some (.dK kvs) ∧ DI ks kvs (worthsAt rs ds at2)) (se : ∃ svs, H' dS = some (.dK svs) ∧ MI ks svs S2) : WkAt K C H' p l du dW dS ks rs ds st at2 g2 S2 := by
  have kt := W.kt e
  refine ⟨ob, ⟨?_, W.log.good⟩, ?_, w, se, W.ne⟩
  · obtain ⟨us, h1, h2⟩ := W.log.ex
    exact ⟨us, sqL_but W.nol e h1, kt.dps (n := 3) (fun d m => nl_en (W.log.good d m)) h2⟩
  · obtain ⟨dv, h1, h2⟩ := W.due
    refine ⟨dv, e _ _ (fun z => ?_) h1, kt.dps (n := 1) (fun d m => by
      obtain ⟨e', _, rfl⟩ := List.mem_map.mp m
      exact nl_ev _) h2⟩
    obtain ⟨o, h3, h4, _⟩ := W.nol du z
    rw [h1] at h3
    cases h3
    exact h4 _ rfl
theorem WkAt.ex (W : WkAt K C H p l du dW dS ks rs ds st at_ g S) (x : Ex H H') : WkAt K C H' p l du dW dS ks rs ds st at_ g S := by
  obtain ⟨dx, h1⟩ := W.ob
  obtain ⟨kvs, h2, d2⟩ := W.w
  obtain ⟨svs, h3, d3⟩ := W.se
  exact W.to (fun a o _ h => x a o h) ⟨dx, x _ _ h1⟩ ⟨kvs, x _ _ h2, d2⟩ ⟨svs, x _ _ h3, d3⟩
end
abbrev WkV (K : PySem.W.Frag) (C : Addr) (p l du dW dS : Addr) (ks : List Int) (rs : List (Int × Int)) (ds : List PyData) (st : Nat) (at_ g : Nat) (S : Int → Prop) (H : Hp) : Prop := WkAt K C H p l du dW dS ks rs ds st at_ g S
/-- on to a place -/
def spGo (K : PySem.W.Frag) (C : Addr) : Sp := fun vs H Q _ => ∃ (p l du dW dS : Addr) (ks : List Int) (rs : List (Int × Int)) (ds : List PyData) (st at_ g n : Nat) (S : Int → Prop), vs = [.ref p, .int (n : Int)] ∧ WkV K C p l du dW dS ks rs ds st at_ g S H ∧ ks.length < 64 ∧ at_ ≤ n ∧ n ≤ ds.length ∧
  ∀ H', Off (wX p dW dS) H H' → WkV K C p l du dW dS ks rs ds st n g (fun k => S k ∨ mvd ds at_ n k) H' → Q .non H'
/-- a copy -/
def spAcp (K : PySem.W.Frag) (C : Addr) : Sp := fun vs H Q _ => ∃ (p l du dW dS : Addr) (ks : List Int) (rs : List (Int × Int)) (ds : List PyData) (st at_ g : Nat) (S : Int → Prop) (k : Int) (x : Option Int), vs = [.ref p, .int k, opV x] ∧ WkV K C p l du dW dS ks rs ds st at_ g S H ∧ ks.length < 64 ∧ k ∈ ks ∧
  (S k → ∀ H', Ex H H' → Q (.bl false) H') ∧ (¬ S k → ∀ H', Off (wX p dW dS) H H' → WkV K C p l du dW dS ks rs ds st at_ g (fun j => S j ∨ j = k) H' → Q (.bl (decide (worthsAt rs ds at_ k = x))) H')
def goodEv (ks : List Int) (e : Evt) : Prop := e.2.2.1 ∈ ks ∧ (∀ z, e.2.2.2 = some z → 0 ≤ z ∧ z < 1000) ∧ PyData.strOk e.2.1 = true
def setS (ds : List PyData) (st : Nat) (s : WkS) : Int → Prop := fun k => mvd ds st s.at' k ∨ k ∈ s.cop
/-- an event -/
def spAcc (K : PySem.W.Frag) (C : Addr) : Sp := fun vs H Q _ => ∃ (p l du dW dS : Addr) (ks : List Int) (rs : List (Int × Int)) (ds : List PyData) (st : Nat) (s : WkS) (v : V) (e : Evt), vs = [.ref p, v] ∧ WkV K C p l du dW dS ks rs ds st s.at' s.g (setS ds st s) H ∧ ks.length < 64 ∧ (∀ k ∈ ks, 0 ≤ k ∧ k < 1000) ∧ st ≤ s.at' ∧ s.g ≤ 10000 ∧ Dp K H v (evD e) ∧ goodEv ks e ∧
  (acc rs ds st s e = none → ∀ H', Off (wX p dW dS) H H' → Q (.bl false) H') ∧ ∀ s', acc rs ds st s e = some s' → ∀ H', Off (wX p dW dS) H H' → WkV K C p l du dW dS ks rs ds st s'.at' s'.g (setS ds st s') H' → Q (.bl true) H'
end K29
namespace K29
open PySem L2 PyProof.Rows Tc Evl
theorem worths_on (rs : List (Int × Int)) (ds : List PyData) {p m : Nat} (h : p ≤ m) : appl (worthsAt rs ds p) (lgD ((ds.drop p).take (m - p))) = worthsAt rs ds m := by
  unfold worthsAt
  rw [← appl_app, ← lgD_app]
  have e : ds.take p ++ (ds.drop p).take (m - p) = ds.take m := by
    have := List.take_add (l := ds) (i := p) (j := m - p)
    rw [Nat.add_sub_cancel' h] at this
    exact this.symm
  rw [e]
theorem sd_e4 {x k : Int} {w : Str} {o : PyData} (hw : PyData.strOk w = true) (ho : sd 0 o = true) : sd 1 (.tuple [.int x, .str w, .int k, o]) = true := by
  show (true && (PyData.strOk w && (true && (sd 0 o && true)))) = true
  rw [hw, ho]
  rfl
theorem sd_ev {e : Evt} (h : PyData.strOk e.2.1 = true) : sd 1 (evD e) = true := by
  obtain ⟨p, wd, k, x⟩ := e
  cases x with
  | none => exact sd_e4 h rfl
  | some z => exact sd_e4 h rfl
theorem sd_op (x : Option Int) : sd 0 (opD x) = true := by cases x <;> rfl
theorem eqv_one (L : List Evt) (g : Nat) (e : Evt) : PyData.eqv (.list (((L.map evD).drop g).take 1)) (.list [evD e]) = decide (L[g]? = some e) := by
  rw [← List.map_drop, ← List.map_take]
  cases h : L[g]? with
  | none =>
    have : L.drop g = [] := List.drop_of_length_le (List.getElem?_eq_none_iff.mp h)
    rw [this]
    simp [PyData.eqv, PyData.eqvAll]
  | some a =>
    have hg := (List.getElem?_eq_some_iff.mp h).1
    have ea := (List.getElem?_eq_some_iff.mp h).2
    rw [List.drop_eq_getElem_cons hg, ea]
    show PyData.eqv (.list [evD a]) (.list [evD e]) = _
    rw [PyData.eqv, PyData.eqvAll, PyData.eqvAll, eqv_ev, Bool.and_true]
    by_cases z : a = e <;> simp [z]
theorem dues_ok {ks : List Int} {ds : List PyData} {st : Nat} {e : Evt} (m : e ∈ dues ds st) : PyData.strOk e.2.1 = true ∧ e.2.1 ≠ "copy" ∧ isEvB e.2.1 e.2.2.2 = true := by
  obtain ⟨_, _, h3, c, mc, e1, e2⟩ := duesF_at _ _ e m
  have e4 : e.2.2.2 = c.2 := by rw [e1]
  refine ⟨?_, h3, ?_⟩
  · rw [e2]
    unfold wordOf
    split <;> decide +kernel
  · rw [e4, e2]
    unfold isEvB wordOf
    cases c.2 with
    | none => rfl
    | some z => exact if_neg (show ¬ ("put" : Str) = "drop" by decide)
section
variable {rs : List (Int × Int)} {ds : List PyData} {st : Nat} {s : WkS} {e : Evt}
theorem acc_out (h : ¬ ((s.at' : Int) ≤ e.1 ∧ e.1 ≤ (ds.length : Int))) : acc rs ds st s e = none := by
  unfold acc
  rw [if_neg h]
theorem acc_no (h : isEvB e.2.1 e.2.2.2 = false) : acc rs ds st s e = none := by
  unfold acc
  split
  · split
    · rename_i hw
      rw [if_pos]
      unfold isEvB at h
      rw [hw, if_neg (by decide)] at h
      refine .inr (.inr (.inl ?_))
      cases hx : e.2.2.2 with
      | none => rfl
      | some z => rw [hx] at h; cases h
    · rw [if_neg]
      intro z
      have := (dues_ok (ks := []) (List.mem_of_getElem? z)).2.2
      rw [h] at this
      cases this
  · rfl
theorem acc_copy (h : (s.at' : Int) ≤ e.1 ∧ e.1 ≤ (ds.length : Int)) (hw : e.2.1 = "copy") (h1 : mvd ds st e.1.toNat e.2.2.1 ∨ e.2.2.1 ∈ s.cop ∨ e.2.2.2 = none ∨ worthsAt rs ds e.1.toNat e.2.2.1 ≠ e.2.2.2) : acc rs ds st s e = none := by
  unfold acc
  rw [if_pos h, if_pos hw, if_pos h1]
theorem acc_copied (h : (s.at' : Int) ≤ e.1 ∧ e.1 ≤ (ds.length : Int)) (hw : e.2.1 = "copy") (h1 : ¬ (mvd ds st e.1.toNat e.2.2.1 ∨ e.2.2.1 ∈ s.cop ∨ e.2.2.2 = none ∨ worthsAt rs ds e.1.toNat e.2.2.1 ≠ e.2.2.2)) : acc rs ds st s e = some ⟨e.1.toNat, s.g, s.cop ++ [e.2.2.1]⟩ := by
  unfold acc
  rw [if_pos h, if_pos hw, if_neg h1]
theorem acc_due (h : (s.at' : Int) ≤ e.1 ∧ e.1 ≤ (ds.length : Int)) (hw : e.2.1 ≠ "copy") (h1 : (dues ds st)[s.g]? = some e) : acc rs ds st s e = some ⟨e.1.toNat, s.g + 1, s.cop⟩ := by
  unfold acc
  rw [if_pos h, if_neg hw, if_pos h1]
theorem acc_ndue (hw : e.2.1 ≠ "copy") (h1 : (dues ds st)[s.g]? ≠ some e) : acc rs ds st s e = none := by
  unfold acc
  by_cases h : (s.at' : Int) ≤ e.1 ∧ e.1 ≤ (ds.length : Int)
  · rw [if_pos h, if_neg hw, if_neg h1]
  · rw [if_neg h]
theorem setS_go {n : Nat} {k : Int} (h1 : st ≤ s.at') (h2 : s.at' ≤ n) : (setS ds st s k ∨ mvd ds s.at' n k) ↔ (mvd ds st n k ∨ k ∈ s.cop) := by
  unfold setS
  rw [mvd_cut h1 h2]
  constructor
  · rintro ((h | h) | h)
    · exact .inl (.inl h)
    · exact .inr h
    · exact .inl (.inr h)
  · rintro ((h | h) | h)
    · exact .inl (.inl h)
    · exact .inr h
    · exact .inl (.inr h)
end
theorem WkAt.iff {K : PySem.W.Frag} {C : Addr} {H : Hp} {p l du dW dS : Addr} {ks : List Int} {rs : List (Int × Int)} {ds : List PyData} {st at_ g : Nat} {S S2 : Int → Prop} (W : WkAt K C H p l du dW dS ks rs ds st at_ g S) (e : ∀ k, S k ↔ S2 k) : WkAt K C H p l du dW dS ks rs ds st at_ g S2 :=
  ⟨W.ob, W.log, W.due, W.w, let ⟨svs, a, b⟩ := W.se; ⟨svs, a, b.iff e⟩, W.ne⟩
theorem WkAt.log' {K : PySem.W.Frag} {C : Addr} {H H' : Hp} {p l du dW dS : Addr} {ks : List Int} {rs : List (Int × Int)} {ds : List PyData} {st at_ g : Nat} {S : Int → Prop} (W : WkAt K C H p l du dW dS ks rs ds st at_ g S) (e : Off (wX p dW dS) H H') : LogAt K H' l ks ds :=
  ⟨let ⟨us, h1, h2⟩ := W.log.ex; ⟨us, sqL_but W.nol e h1, (W.kt e).dps (n := 3) (fun d m => nl_en (W.log.good d m)) h2⟩, W.log.good⟩
section
variable {P : Program} {w : World} {K : PySem.W.Frag} {mg : Str → Option Value} {base : Heap}
set_option maxHeartbeats 1000000 in
theorem ok_go {f C : Addr} {fd : FuncData} {kCa kCh k : Nat} (F : Fun K "go_to" "Walk.go_to" mGo f fd) (T : WTx K mg C) (dCa : Own P w K mg base "carry" ["rows", "log", "low", "high"] kCa (spCarry K)) (hCa : kCa ≤ k) (dCh : Own P w K mg base "changed" ["log", "low", "high"] kCh (spChanged K)) (hCh : kCh ≤ k) : FnOk P w K mg base CX0 (k + 1) f fd ["self", "place"] (spGo K C) := by
  refine F.ok scGo (fun vs H Q E h => ?_) (fun cdv A outer s H vs Q E hr h => ?_)
  · obtain ⟨p, l, du, dW, dS, ks, rs, ds, st, at_, g, n, S, rfl, _⟩ := h
    rfl
  · obtain ⟨p, l, du, dW, dS, ks, rs, ds, st, at_, g, n, S, rfl, W, h64, le, ln, q⟩ := h
    refine ⟨_, (pss_cons (ps_expr (pe_own dCa hr hCa (by rfl) (pa_cons (pe_fld (pv 0) rfl) (pa_cons (pe_fld (pv 0) rfl) (pa_cons (pe_fld (pv 0) rfl) (pa_cons (pv 1) pa_nil))))))
      (pss_cons (ps_for PassesOwn.never rfl (pi_list (pe_own dCh hr hCh (by rfl) (pa_cons (pe_fld (pv 0) rfl) (pa_cons (pe_fld (pv 0) rfl) (pa_cons (pv 1) pa_nil))))) (pg_name (i := 2) scGo.nd rfl (.inl rfl)) (pss_one (ps_dput (hu_of hr) (pe_fld (pv 0) rfl) (pv 2) pe_bl rfl)))
      (pss_one (ps_fld (pv 0) (pv 1) rfl)))), ?_⟩
    obtain ⟨dx, hp⟩ := W.ob
    obtain ⟨kvs, hW, di⟩ := W.w
    obtain ⟨svs, hS, mi⟩ := W.se
    have pW : p ≠ dW := fun z => by
      rw [z, hW] at hp
      cases hp
    have pS : p ≠ dS := fun z => by
      rw [z, hS] at hp
      cases hp
    refine s_seq ⟨_, rfl, p, C, dx, _, _, rfl, hp, T.cl, T.aW, wl_worths, _, rfl, p, C, dx, _, _, rfl, hp, T.cl, T.aL, wl_log, _, rfl, p, C, dx, _, _, rfl, hp, T.cl, T.aA, wl_at, .int (n : Int), rfl, dW, l, ks, kvs, worthsAt rs ds at_, ds, at_, n, rfl, hW, di, h64, W.log, le, fun kvs2 H2 b2 hW2 di2 => ?_⟩
    rw [worths_on rs ds le] at di2
    have off2 : Off (wX p dW dS) H H2 := fun a o nx h => b2 a o (fun z => nx (.inr (.inl z))) h
    have hp2 := b2 p _ pW hp
    have hS2 := b2 dS _ (Ne.symm W.ne) hS
    have log2 := W.log' off2
    dsimp only
    refine s_seq ⟨_, rfl, p, C, dx, _, _, rfl, hp2, T.cl, T.aL, wl_log, _, rfl, p, C, dx, _, _, rfl, hp2, T.cl, T.aA, wl_at, .int (n : Int), rfl, l, ks, ds, at_, n, rfl, h64, log2, le, ln, fun pj js H3 npj x3 hpj pw mem => ⟨pj, rfl, ⟨_, sq_of hpj⟩, ?_⟩⟩
    have hp3 := x3 _ _ hp2
    have hS3 := x3 _ _ hS2
    have hW3 := x3 _ _ hW2
    have jS : pj ≠ dS := fun z => by
      rw [z, hS3] at hpj
      cases hpj
    refine for_list (K := K) (a := pj) (xs := js.map V.int) (fun i σ' H' => ∃ y2 svs', σ' = [some (.ref p), some (.int (n : Int)), y2] ∧ Bar dS H3 H' ∧ H' dS = some (.dK svs') ∧ MI ks svs' (fun k => S k ∨ k ∈ js.take i)) ⟨none, svs, rfl, Bar.refl dS H3, hS3, mi.iff fun k => ⟨.inl, fun z => z.elim id fun m => by cases m⟩⟩ (fun i σ' H' _ ⟨_, _, _, b, _⟩ => sq_of (b _ _ jS hpj)) (fun i x σ' H' hx h => ?_) (fun σ' H' h => ?_)
    · obtain ⟨y2, svs', rfl, b, hSv, mi'⟩ := h
      rw [List.getElem?_map] at hx
      obtain ⟨kk, hk, rfl⟩ := Option.map_eq_some_iff.mp hx
      have mk : kk ∈ ks := by
        obtain ⟨c, mc, e⟩ := (mem kk).mp (List.mem_of_getElem? hk)
        rw [← e]
        refine lg_keys (ds := ds) W.log.good c ?_
        obtain ⟨d', md, mx⟩ := List.mem_flatMap.mp mc
        exact List.mem_flatMap.mpr ⟨d', List.mem_of_mem_drop (List.mem_of_mem_take md), mx⟩
      refine g_name ?_
      dsimp only
      have hp' := b _ _ pS hp3
      refine ⟨_, rfl, p, C, dx, _, _, rfl, hp', T.cl, T.aS, wl_settled, .int kk, rfl, dS, _, rfl, DPut.k (k := .inl kk) hSv (sz_lt (by have := mi'.len; omega)), _, _, rfl, b.put, upd_same, (mi'.put mk).iff fun k => ?_⟩
      rw [List.take_succ, hk]
      simp only [Option.toList, List.mem_append, List.mem_singleton]
      exact or_assoc
    · obtain ⟨y2, svs', rfl, b, hSv, mi'⟩ := h
      rw [List.length_map, List.take_length] at mi'
      have hp' := b _ _ pS hp3
      dsimp only
      refine ⟨.int (n : Int), rfl, .ref p, rfl, p, C, dx, _, rfl, hp', T.cl, T.aA, by show 6 < 1000; decide, ?_⟩
      rw [wp_at]
      have off3 : Off (wX p dW dS) H (upd H' p (.ins C dx (wfl l du dW dS (n : Int) (g : Int)))) := fun a o nx h => by
        rw [upd_ne fun z => nx (.inl z)]
        exact b a o (fun z => nx (.inr (.inr z))) (x3 a o (off2 a o nx h))
      refine q _ off3 (W.to off3 ⟨dx, upd_same⟩ ⟨kvs2, ?_, di2⟩ ⟨svs', ?_, mi'.iff fun k => ?_⟩)
      · rw [upd_ne (Ne.symm pW)]
        exact b _ _ W.ne hW3
      · rw [upd_ne (Ne.symm pS)]
        exact hSv
      · rw [mem]
        exact Iff.rfl
set_option maxHeartbeats 1000000 in
theorem ok_acp {f C : Addr} {fd : FuncData} {k : Nat} (F : Fun K "accepts_copy" "Walk.accepts_copy" mAcp f fd) (T : WTx K mg C) : FnOk P w K mg base CX0 (k + 1) f fd ["self", "key", "worth"] (spAcp K C) := by
  refine F.ok scAcp (fun vs H Q E h => ?_) (fun cdv A outer s H vs Q E hr h => ?_)
  · obtain ⟨p, l, du, dW, dS, ks, rs, ds, st, at_, g, S, kk, x, rfl, _⟩ := h
    rfl
  · obtain ⟨p, l, du, dW, dS, ks, rs, ds, st, at_, g, S, kk, x, rfl, W, h64, mk, q1, q2⟩ := h
    refine ⟨_, (pss_cons (ps_if (pt_cmp (pc_din (hu_of hr) (pv 1) (pe_fld (pv 0) rfl))) (pss_one (ps_ret pe_bl)) pss_nil)
      (pss_cons (ps_dput (hu_of hr) (pe_fld (pv 0) rfl) (pv 1) pe_bl rfl)
      (pss_one (ps_ret (pe_cmpR (op_eqD hr.units) (pe_dget1 (hu_of hr) (pe_fld (pv 0) rfl) (pv 1) ⟨rfl, rfl, rfl, rfl⟩) (pv 2) (nomark _)))))), ?_⟩
    obtain ⟨dx, hp⟩ := W.ob
    obtain ⟨kvs, hW, di⟩ := W.w
    obtain ⟨svs, hS, mi⟩ := W.se
    have pS : p ≠ dS := fun z => by
      rw [z, hS] at hp
      cases hp
    refine s_seq ⟨.int kk, rfl, _, rfl, p, C, dx, _, _, rfl, hp, T.cl, T.aS, wl_settled, dS, _, rfl, DGet.k (k := .inl kk) hS, _, rfl, ite2 (fun e => ?_) (fun e => s_next ?_)⟩
    · exact q1 ((mi.has kk).mp e) H (Ex.refl H)
    · have nS : ¬ S kk := fun z => e ((mi.has kk).mpr z)
      refine s_seq ⟨_, rfl, p, C, dx, _, _, rfl, hp, T.cl, T.aS, wl_settled, .int kk, rfl, dS, _, rfl, DPut.k (k := .inl kk) hS (sz_lt (by have := mi.len; omega)), ?_⟩
      have off : Off (wX p dW dS) H (upd H dS (.dK (putK svs (.inl kk) (.bl true)))) := fun a o nx h => by
        rw [upd_ne fun z => nx (.inr (.inr z))]
        exact h
      have hp2 : (upd H dS (.dK (putK svs (.inl kk) (.bl true)))) p = some (.ins C dx (wfl l du dW dS (at_ : Int) (g : Int))) := by rw [upd_ne pS]; exact hp
      have hW2 : (upd H dS (.dK (putK svs (.inl kk) (.bl true)))) dW = some (.dK kvs) := by rw [upd_ne W.ne]; exact hW
      have W2 := W.to off ⟨dx, hp2⟩ ⟨kvs, hW2, di⟩ ⟨_, upd_same, mi.put mk⟩
      have q3 := q2 nS _ off W2
      dsimp only
      refine ⟨_, rfl, p, C, dx, _, _, rfl, hp2, T.cl, T.aW, wl_worths, dW, rfl, .inl ⟨kvs, .inl hW2⟩, .int kk, rfl, _, DGet.k (k := .inl kk) hW2, opV x, rfl, opD (worthsAt rs ds at_ kk), opD x, ?_, dp_op x, sd_sh (sd_op _) (by decide), sd_sh (sd_op _) (by decide), ?_⟩
      · have ev : (valV kvs (.inl kk)).getD .non = opV (worthsAt rs ds at_ kk) := by
          rw [di.val]
          cases worthsAt rs ds at_ kk <;> rfl
        rw [ev]
        exact dp_op _
      · rw [eqv_op]
        exact q3
set_option maxHeartbeats 2000000 in
theorem ok_acc {f C fGo fAcp : Addr} {fd fdGo fdAcp : FuncData} {kIe kGo kAcp k : Nat} (F : Fun K "accepts" "Walk.accepts" mAcc f fd) (N : Names mg) (T : WTx K mg C) (dIe : Own P w K mg base "is_event" ["place", "word", "key", "worth"] kIe spIe) (hIe : kIe ≤ k)
    (FGo : FnOk P w K mg base CX0 kGo fGo fdGo ["self", "place"] (spGo K C)) (bGo : Binds K fdGo ["self", "place"] []) (mGo : Meth K C "go_to" fGo) (hGo : kGo ≤ k) (FAcp : FnOk P w K mg base CX0 kAcp fAcp fdAcp ["self", "key", "worth"] (spAcp K C)) (bAcp : Binds K fdAcp ["self", "key", "worth"] []) (mAcp : Meth K C "accepts_copy" fAcp) (hAcp : kAcp ≤ k) : FnOk P w K mg base CX0 (k + 1) f fd ["self", "event"] (spAcc K C) := by
  refine F.ok scAcc (fun vs H Q E h => ?_) (fun cdv A outer s H vs Q E hr h => ?_)
  · obtain ⟨p, l, du, dW, dS, ks, rs, ds, st, s, v, e, rfl, _⟩ := h
    rfl
  · obtain ⟨p, l, du, dW, dS, ks, rs, ds, st, ws, v, e, rfl, W, h64, hkb, sle, gle, hv, ge, q1, q2⟩ := h
    refine ⟨_, (pss_cons (ps_asg (pv 1) (pg_tup rfl (pgs_cons (pg_name (i := 2) scAcc.nd rfl (.inl rfl)) (pgs_cons (pg_name (i := 3) scAcc.nd rfl (.inl rfl)) (pgs_cons (pg_name (i := 4) scAcc.nd rfl (.inl rfl)) (pgs_cons (pg_name (i := 5) scAcc.nd rfl (.inl rfl)) pgs_nil))))))
      (pss_cons (ps_if (PW.pt (pw_or (pt_not (pt_val (pe_own dIe hr hIe (by rfl) (pa_cons (pv 2) (pa_cons (pv 3) (pa_cons (pv 4) (pa_cons (pv 5) pa_nil))))))) (pw_or1 (pt_not (pt_chain op_le op_le (pe_fld (pv 0) rfl) (pv 2) (pe_callB call_len_seq (by rfl) N.len PySem.boot_len (pa_cons (pe_fld (pv 0) rfl) pa_nil))))))) (pss_one (ps_ret pe_bl)) pss_nil)
      (pss_cons (ps_expr (pe_meth (pv 0) T.cl mGo FGo (hr.mono hGo) bGo .nil pass0 (pa_cons (pv 2) pa_nil)))
      (pss_cons (ps_if (pt_cmpR op_eq (pv 3) pe_str (nomark _)) (pss_one (ps_ret (pe_meth (pv 0) T.cl mAcp FAcp (hr.mono hAcp) bAcp .nil pass0 (pa_cons (pv 4) (pa_cons (pv 5) pa_nil))))) pss_nil)
      (pss_cons (ps_fldaug (pv 0) pe_int in_add)
      (pss_one (ps_ret (pe_cmpR (op_eqD hr.units) (pe_slice sl_list (pe_fld (pv 0) rfl) (po_some (pe_op op_sub (pe_fld (pv 0) rfl) pe_int)) (po_some (pe_fld (pv 0) rfl))) (pe_lst (pa_cons (pv 1) pa_nil)) (nomark _))))))))), ?_⟩
    obtain ⟨pl, wd, kk, x⟩ := e
    obtain ⟨mk, hx, hsw⟩ := ge
    dsimp only at mk hx hsw
    obtain ⟨a, rfl, hs⟩ : ∃ a, v = .ref a ∧ SqT K H a [.int pl, .str wd, .int kk, opV x] := by
      cases hv with
      | tup hs hr => 
        cases hr with
        | cons h0 hr => cases hr with
          | cons h1 hr => cases hr with
            | cons h2 hr => cases hr with
              | cons h3 hr =>
                cases hr
                cases h0
                cases h1
                cases h2
                refine ⟨_, rfl, ?_⟩
                cases x with
                | none => cases h3; exact hs
                | some z => cases h3; exact hs
    obtain ⟨us, hl, hA⟩ := W.log.ex
    have ulen := dps_len hA
    obtain ⟨dx, hp⟩ := W.ob
    refine s_seq ⟨.ref a, rfl, a, _, rfl, hs, rfl, _, _, rfl, _, _, rfl, _, _, rfl, _, _, rfl, rfl, ?_⟩
    dsimp only
    refine s_seq (s_if (b := !isEvB wd x || !(decide ((ws.at' : Int) ≤ pl) && decide (pl ≤ (us.length : Int)))) (et_is (et_or (et_not (et_B (b := isEvB wd x) fun G eG Q' q' => ⟨.int pl, rfl, .str wd, rfl, .int kk, rfl, opV x, rfl, pl, kk, wd, x, rfl, (hkb kk mk).1, (hkb kk mk).2, hx, q'⟩)) fun _ => et_not (et_test (ev_chain (p := fun i j => decide (i ≤ j)) (p' := fun i j => decide (i ≤ j)) (ev_fl hp wl_at T.cl T.aA rfl) (ev_var rfl) (ev_len (ev_fl hp wl_log T.cl T.aL rfl) hl)))) rfl) (fun e H1 x1 => ?_) fun e H1 x1 => s_next ?_)
    · refine q1 ?_ H1 (fun a o _ h => x1 a o h)
      cases hB : isEvB wd x with
      | false => exact acc_no hB
      | true =>
        refine acc_out fun z => ?_
        rw [hB, decide_eq_true z.1, decide_eq_true (by rw [ulen]; exact z.2)] at e
        cases e
    rw [Bool.or_eq_false_iff, Bool.not_eq_false', Bool.not_eq_false', Bool.and_eq_true, decide_eq_true_eq, decide_eq_true_eq, ulen] at e
    obtain ⟨hB, c1, c2⟩ := e
    obtain ⟨n, rfl⟩ : ∃ n : Nat, pl = (n : Int) := ⟨pl.toNat, by omega⟩
    have W1 := W.ex x1
    have hs1 := Evl.ex_t x1 hs
    obtain ⟨dx1, hp1⟩ := W1.ob
    refine s_seq ⟨_, rfl, p, dx1, _, rfl, hp1, wl_no _ (by decide +kernel), .int (n : Int), rfl, p, l, du, dW, dS, ks, rs, ds, st, ws.at', ws.g, n, setS ds st ws, rfl, W1, h64, by omega, by omega, fun H2 off2 W2 => ?_⟩
    dsimp only
    have W3 := W2.iff (S2 := fun k => mvd ds st n k ∨ k ∈ ws.cop) fun k => setS_go sle (by omega)
    have kt2 := W1.kt off2
    have hs2 := kt2.t hs1
    have off02 : Off (wX p dW dS) H H2 := fun a o nx h => off2 a o nx (x1 a o h)
    obtain ⟨dx2, hp2⟩ := W3.ob
    have cc : ((ws.at' : Int) ≤ ((n : Int), wd, kk, x).1 ∧ ((n : Int), wd, kk, x).1 ≤ (ds.length : Int)) := ⟨c1, c2⟩
    refine s_seq (s_if (b := decide (wd = "copy")) (et_is (et_test (ev_op (ev_var rfl) ev_c (rv_eq rfl))) (by by_cases z : wd = "copy" <;> simp [z])) (fun hw H3 x3 => ?_) fun hw H3 x3 => s_next ?_)
    · have hw := of_decide_eq_true hw
      have W4 := W3.ex x3
      obtain ⟨dx3, hp3⟩ := W4.ob
      refine ⟨_, rfl, p, dx3, _, rfl, hp3, wl_no _ (by decide +kernel), .int kk, rfl, opV x, rfl, p, l, du, dW, dS, ks, rs, ds, st, n, ws.g, _, kk, x, rfl, W4, h64, mk, fun hS G xg => ?_, fun hS G offg Wg => ?_⟩
      · exact q1 (acc_copy cc hw (hS.elim .inl fun h => .inr (.inl h))) G fun a o nx h => xg a o (x3 a o (off02 a o nx h))
      · have offG : Off (wX p dW dS) H G := fun a o nx h => offg a o nx (x3 a o (off02 a o nx h))
        have xn : x ≠ none := fun z => by
          rw [z] at hB
          unfold isEvB at hB
          rw [hw, if_neg (by decide)] at hB
          cases hB
        by_cases hv : worthsAt rs ds n kk = x
        · rw [decide_eq_true hv]
          refine q2 _ (acc_copied cc hw fun z => ?_) G offG (Wg.iff fun k => ?_)
          · rcases z with z | z | z | z
            · exact hS (.inl z)
            · exact hS (.inr z)
            · exact xn z
            · exact z hv
          · unfold setS
            show ((mvd ds st n k ∨ k ∈ ws.cop) ∨ k = kk) ↔ (mvd ds st ((n : Int)).toNat k ∨ k ∈ ws.cop ++ [kk])
            rw [List.mem_append, List.mem_singleton, Int.toNat_natCast]
            exact or_assoc
        · rw [decide_eq_false hv]
          exact q1 (acc_copy cc hw (.inr (.inr (.inr hv)))) G offG
    · have hw : wd ≠ "copy" := of_decide_eq_false hw
      have W4 := W3.ex x3
      obtain ⟨dx3, hp3⟩ := W4.ob
      have hs3 := Evl.ex_t x3 hs2
      refine s_seq ⟨_, rfl, p, C, dx3, _, _, rfl, hp3, T.cl, T.aM, wl_mg, (ws.g : Int), 1, rfl, rfl, dx3, _, hp3, by show 6 < 1000; decide, ?_⟩
      rw [wp_mg, show (ws.g : Int) + 1 = ((ws.g + 1 : Nat) : Int) from rfl]
      have off3 : Off (wX p dW dS) H3 (upd H3 p (.ins C dx3 (wfl l du dW dS (n : Int) ((ws.g + 1 : Nat) : Int)))) := fun a o nx h => by
        rw [upd_ne fun z => nx (.inl z)]
        exact h
      have hp4 : (upd H3 p (.ins C dx3 (wfl l du dW dS (n : Int) ((ws.g + 1 : Nat) : Int)))) p = some (.ins C dx3 (wfl l du dW dS (n : Int) ((ws.g + 1 : Nat) : Int))) := upd_same
      have W5 : WkAt K C (upd H3 p (.ins C dx3 (wfl l du dW dS (n : Int) ((ws.g + 1 : Nat) : Int)))) p l du dW dS ks rs ds st n (ws.g + 1) (fun k => mvd ds st n k ∨ k ∈ ws.cop) := by
        obtain ⟨kvs, hW, di⟩ := W4.w
        obtain ⟨svs, hS, mi⟩ := W4.se
        refine W4.to off3 ⟨dx3, upd_same⟩ ⟨kvs, ?_, di⟩ ⟨svs, ?_, mi⟩
        · rw [upd_ne (fun z => by rw [← z, hW] at hp3; cases hp3)]
          exact hW
        · rw [upd_ne (fun z => by rw [← z, hS] at hp3; cases hp3)]
          exact hS
      have kt4 := W4.kt off3
      have hs4 := kt4.t hs3
      have off5 : Off (wX p dW dS) H (upd H3 p (.ins C dx3 (wfl l du dW dS (n : Int) ((ws.g + 1 : Nat) : Int)))) := fun a o nx h => off3 a o nx (x3 a o (off02 a o nx h))
      generalize upd H3 p (.ins C dx3 (wfl l du dW dS (n : Int) ((ws.g + 1 : Nat) : Int))) = H4 at off5 hp4 W5 hs4
      obtain ⟨dv, hdu, dD⟩ := W5.due
      dsimp only
      refine ⟨_, rfl, p, C, dx3, _, _, rfl, hp4, T.cl, T.aD, wl_due, _, rfl, p, C, dx3, _, _, rfl, hp4, T.cl, T.aM, wl_mg, ((ws.g + 1 : Nat) : Int), 1, rfl, rfl, ((ws.g + 1 : Nat) : Int) - 1, rfl, _, rfl, p, C, dx3, _, _, rfl, hp4, T.cl, T.aM, wl_mg, ((ws.g + 1 : Nat) : Int), rfl, du, dv, rfl, sq_of hdu, fun t ht => ⟨.ref a, rfl, sz_of (by simp), fun r hr' => ?_⟩⟩
      have ecut : cutV dv (some (((ws.g + 1 : Nat) : Int) - 1)) (some ((ws.g + 1 : Nat) : Int)) = (dv.drop ws.g).take 1 := by
        rw [show ((ws.g + 1 : Nat) : Int) - 1 = ((ws.g : Nat) : Int) by omega, cut_nat dv ws.g (ws.g + 1) (by omega), Nat.add_sub_cancel_left]
      rw [ecut] at hr' ⊢
      have xa : Ex H4 (upd H4 t (.lst ((dv.drop ws.g).take 1))) := Ex.new ht
      have ta : (upd H4 t (.lst ((dv.drop ws.g).take 1))) t = some (.lst ((dv.drop ws.g).take 1)) := upd_same
      generalize upd H4 t (.lst ((dv.drop ws.g).take 1)) = H5 at xa ta hr'
      have xb : Ex H5 (upd H5 r (.lst [.ref a])) := Ex.new hr'
      have rb : (upd H5 r (.lst [.ref a])) r = some (.lst [.ref a]) := upd_same
      generalize upd H5 r (.lst [.ref a]) = H6 at xb rb
      have dE : Dp K H6 (.ref a) (evD ((n : Int), wd, kk, x)) := .tup (Evl.ex_t (xa.trans xb) hs4) (.cons (.int _) (.cons (.str _) (.cons (.int _) (.cons (dp_op _) .nil))))
      refine ⟨.list (((((dues ds st).map evD).drop ws.g).take 1)), .list [evD ((n : Int), wd, kk, x)], .lst (sq_of (xb _ _ ta)) (dps_same (xa.trans xb) _ _ (dps_take 1 (dps_drop ws.g dD))), .lst (sq_of rb) (.cons dE .nil), sd_sh (n := 2) ?_ (by decide), sd_sh (n := 2) ?_ (by decide), ?_⟩
      · refine List.all_eq_true.mpr fun d md => ?_
        obtain ⟨e', me, rfl⟩ := List.mem_map.mp (List.mem_of_mem_drop (List.mem_of_mem_take md))
        exact sd_ev (dues_ok (ks := []) me).1
      · refine List.all_eq_true.mpr fun d md => ?_
        rw [List.mem_singleton.mp md]
        exact sd_ev hsw
      · rw [eqv_one]
        have off6 : Off (wX p dW dS) H H6 := fun a o nx h => xb a o (xa a o (off5 a o nx h))
        by_cases hd : (dues ds st)[ws.g]? = some ((n : Int), wd, kk, x)
        · rw [decide_eq_true hd]
          exact q2 _ (acc_due cc hw hd) H6 off6 (W5.ex (xa.trans xb))
        · rw [decide_eq_false hd]
          exact q1 (acc_ndue hw hd) H6 off6
end
end K29
namespace K29
open PySem L2 PyProof.Rows Tc Evl
/-- an object laid on the way, changed -/
theorem ini_chg {C dx p d : Addr} {H0 H H' : Hp} {fs : List (Str × V)} {o o2 : HO} {nw : List (Addr × HO)} (I : Ini C dx p H0 fs ((d, o) :: nw) H) (b : Bar d H H') (h : H' d = some o2) : Ini C dx p H0 fs ((d, o2) :: nw) H' := by
  obtain ⟨a1, a2, a3⟩ := I.nws _ List.mem_cons_self
  have ob := b p _ (Ne.symm a3) I.ob
  have bb : ∀ a o, a ≠ p → H0 a = some o → H' a = some o := fun a u n e => b a u (fun z => by rw [z, a2] at e; cases e) (I.bb a u n e)
  refine ⟨ob, bb, fun a e => ?_, fun q m => ?_, I.nd⟩
  · cases hz : H0 a with
    | none => rfl
    | some u =>
      by_cases n : a = p
      · rw [n, ob] at e
        cases e
      · rw [bb a u n hz] at e
        cases e
  · rcases List.mem_cons.mp m with rfl | m
    · exact ⟨h, a2, a3⟩
    · obtain ⟨b1, b2, b3⟩ := I.nws q (List.mem_cons_of_mem _ m)
      refine ⟨b _ _ (fun z => ?_) b1, b2, b3⟩
      have := I.nd
      rw [List.map_cons] at this
      exact (List.nodup_cons.mp this).1 (List.mem_map.mpr ⟨q, m, z⟩)
theorem ini_kt {C dx p : Addr} {H0 H : Hp} {fs fs0 : List (Str × V)} {nw : List (Addr × HO)} (I : Ini C dx p H0 fs nw H) (h0 : H0 p = some (.ins C dx fs0)) : Kt H0 H :=
  Kt.but (fun a => a = p) (fun a z => by
    subst z
    exact ⟨_, h0, fun xs y => (by cases y), fun o xs y => by cases y⟩) fun a o n h => I.bb a o n h
theorem ini_log {K : PySem.W.Frag} {C dx p l : Addr} {ks : List Int} {ds : List PyData} {H0 H : Hp} {fs fs0 : List (Str × V)} {nw : List (Addr × HO)} (I : Ini C dx p H0 fs nw H) (h0 : H0 p = some (.ins C dx fs0)) (hl : LogAt K H0 l ks ds) : LogAt K H l ks ds :=
  ⟨let ⟨us, h1, h2⟩ := hl.ex; ⟨us, sqL_but (X := fun a => a = p) (fun a z => by
    subst z
    exact ⟨_, h0, fun xs y => (by cases y), fun o xs y => by cases y⟩) (fun a o n h => I.bb a o n h) h1, (ini_kt I h0).dps (n := 3) (fun d m => nl_en (hl.good d m)) h2⟩, hl.good⟩
def spWin (K : PySem.W.Frag) (C : Addr) : Sp := fun vs H Q _ => ∃ (p dx l : Addr) (vt : V) (rs : List (Int × Int)) (ks : List Int) (ds : List PyData) (st : Nat), vs = [.ref p, vt, .ref l, .int (st : Int)] ∧ H p = some (.ins C dx []) ∧ Dp K H vt (rowsD rs) ∧ (∀ r ∈ rs, r.1 ∈ ks) ∧ ks.length < 64 ∧ LogAt K H l ks ds ∧ ds.length ≤ 100 ∧ (∀ d ∈ ds, (chsD d).length ≤ 10) ∧ st ≤ ds.length ∧
  ∀ du dW dS H', H dW = none → H dS = none → (∀ a o, a ≠ p → H a = some o → H' a = some o) → WkV K C p l du dW dS ks rs ds st st 0 (fun _ => False) H' → Q .non H'
def resV : Option Nat → V
  | some n => .int (n : Int)
  | none => .non
def spFw (K : PySem.W.Frag) : Sp := fun vs H Q _ => ∃ (vt : V) (l el : Addr) (rs : List (Int × Int)) (ks : List Int) (ds : List PyData) (st : Nat) (us : List V) (es : List Evt), vs = [vt, .ref l, .ref el, .int (st : Int)] ∧ Dp K H vt (rowsD rs) ∧ (∀ r ∈ rs, r.1 ∈ ks) ∧ ks.length < 64 ∧ (∀ k ∈ ks, 0 ≤ k ∧ k < 1000) ∧ LogAt K H l ks ds ∧ ds.length ≤ 100 ∧ (∀ d ∈ ds, (chsD d).length ≤ 10) ∧ st ≤ ds.length ∧
  SqL K H el us ∧ DpAll K H us (es.map evD) ∧ (∀ e ∈ es, goodEv ks e) ∧ es.length ≤ 5000 ∧ ∀ H', Ex H H' → Q (resV (wrong rs ds st ⟨st, 0, []⟩ 0 es)) H'
theorem worths_start (rs : List (Int × Int)) (ds : List PyData) (st : Nat) : appl (fRows rs) (lgD ((ds.drop 0).take (st - 0))) = worthsAt rs ds st := by
  unfold worthsAt
  rw [List.drop_zero, Nat.sub_zero]
section
variable {P : Program} {w : World} {K : PySem.W.Frag} {mg : Str → Option Value} {base : Heap}
set_option maxHeartbeats 2000000 in
theorem ok_win {f C : Addr} {fd : FuncData} {kEo kCa k : Nat} (F : Fun K "__init__" "Walk.__init__" mWin f fd) (T : WTx K mg C) (dEo : Own P w K mg base "events_of_changes" ["log", "start"] kEo (spEoc K)) (hEo : kEo ≤ k) (dCa : Own P w K mg base "carry" ["rows", "log", "low", "high"] kCa (spCarry K)) (hCa : kCa ≤ k) : FnOk P w K mg base CX0 (k + 1) f fd ["self", "table", "log", "start"] (spWin K C) := by
  refine F.ok scWin (fun vs H Q E h => ?_) (fun cdv A outer s H vs Q E hr h => ?_)
  · obtain ⟨p, dx, l, vt, rs, ks, ds, st, rfl, _⟩ := h
    rfl
  · obtain ⟨p, dx, l, vt, rs, ks, ds, st, rfl, hp, hd, hrs, h64, hl, dl, cl, sl, q⟩ := h
    refine ⟨_, (pss_cons (ps_fld (pv 0) (pv 2) rfl)
      (pss_cons (ps_fld (pv 0) (pv 3) rfl)
      (pss_cons (ps_fld (pv 0) (pe_own dEo hr hEo (by rfl) (pa_cons (pv 2) (pa_cons (pv 3) pa_nil))) rfl)
      (pss_cons (ps_fld (pv 0) pe_int rfl)
      (pss_cons (ps_fld (pv 0) (pe_dc (own := [("key", 4), ("worth", 5)]) (g := gTup K 2 (gCons (gName 4) (gCons (gName 5) gNil))) (tt := tYes) (tk := tVar 4) (tv := tVar 5) rfl scWin.nd (pi_tup (pv 1)) (blkOk_by (N := ["self", "table", "log", "start", "key", "worth"]) (sc := defScope mWin) (by decide +kernel)) (fun _ _ _ _ _ => pg_tup rfl (pgs_cons (pg_name (i := 4) scWin.nd rfl (Or.inl rfl)) (pgs_cons (pg_name (i := 5) scWin.nd rfl (Or.inl rfl)) pgs_nil))) (fun _ _ _ _ _ => pts_nil) (fun _ _ _ _ _ => pv 4) (fun _ _ _ _ _ => pv 5)) rfl)
      (pss_cons (ps_expr (pe_own dCa hr hCa (by rfl) (pa_cons (pe_fld (pv 0) rfl) (pa_cons (pv 2) (pa_cons pe_int (pa_cons (pv 3) pa_nil))))))
      (pss_one (ps_fld (pv 0) pe_dnewK rfl)))))))), ?_⟩
    have n0 : ([] : List (Str × V)).length ≤ 0 := Nat.le_refl _
    refine s_seq (ini_c (Ini.start hp) (ev_var rfl) rfl T.cl T.aL (by decide) fun H1 I1 => ?_)
    have n1 := putF_le (f := "log") (v := .ref l) n0
    dsimp only
    refine s_seq (ini_c I1 (ev_var rfl) rfl T.cl T.aA (by omega) fun H2 I2 => ?_)
    have n2 := putF_le (f := "at") (v := .int (st : Int)) n1
    dsimp only
    refine s_seq ⟨.ref l, rfl, .int (st : Int), rfl, l, ks, ds, st, rfl, ini_log I2 hp hl, dl, cl, sl, fun du dv H3 nd x3 hdu dD => ?_⟩
    have I3 := I2.new nd x3 hdu
    refine ⟨.ref p, rfl, p, C, dx, _, rfl, I3.ob, T.cl, T.aD, by omega, ?_⟩
    have n3 := putF_le (f := "due") (v := .ref du) n2
    have pu : du ≠ p := fun z => by
      have := I2.ob
      rw [← z, nd] at this
      cases this
    have kt4 : Kt H3 (upd H3 p (.ins C dx (putF "due" (.ref du) (putF "at" (.int (st : Int)) (putF "log" (.ref l) []))))) := Kt.but (fun a => a = p) (fun a z => by
      subst z
      exact ⟨_, I3.ob, fun xs y => (by cases y), fun o xs y => by cases y⟩) fun a o n h => by rw [upd_ne n]; exact h
    have I4 := I3.fld (putF "due" (.ref du) (putF "at" (.int (st : Int)) (putF "log" (.ref l) [])))
    have dD4 := kt4.dps (n := 1) (fun d m => by
      obtain ⟨e', _, rfl⟩ := List.mem_map.mp m
      exact nl_ev _) dD
    have hdu4 : (upd H3 p (.ins C dx (putF "due" (.ref du) (putF "at" (.int (st : Int)) (putF "log" (.ref l) []))))) du = some (.lst dv) := by rw [upd_ne pu]; exact hdu
    generalize upd H3 p (.ins C dx (putF "due" (.ref du) (putF "at" (.int (st : Int)) (putF "log" (.ref l) [])))) = H4 at I4 dD4 hdu4
    have hl4 := ini_log I4 hp hl
    have hd4 : Dp K H4 vt (rowsD rs) := (ini_kt I4 hp).dp 2 _ _ (nl_rows rs) hd
    have ob4 := I4.ob
    have J4 := Ini.start ob4
    dsimp only
    refine s_seq (ini_c J4 ev_c rfl T.cl T.aM (by omega) fun H5 J5 => ?_)
    have n4 := putF_le (f := "many_given") (v := .int 0) n3
    have hd5 := (ini_kt J5 ob4).dp 2 _ _ (nl_rows rs) hd4
    obtain ⟨a, xs, rfl, hs, hA⟩ : ∃ a xs, vt = .ref a ∧ SqT K H5 a xs ∧ DpAll K H5 xs (rs.map Tc.pairD) := by
      cases hd5 with
      | tup hs hA => exact ⟨_, _, rfl, hs, hA⟩
    have hlen : xs.length = rs.length := by rw [dps_len hA, List.length_map]
    dsimp only
    have mkD : ∀ Q' : VK, (∀ D kvs H', H5 D = none → Ex H5 H' → H' D = some (.dK kvs) → DI ks kvs (fRows rs) → Q' (.ref D) H') → tDc (iTup K (tVar 1)) (gTup K 2 (gCons (gName 4) (gCons (gName 5) gNil))) tYes (tVar 4) (tVar 5) [4, 5] (start ["self", "table", "log", "start", "key", "worth"] [.ref p, .ref a, .ref l, .int (st : Int)]) H5 Q' := fun Q' q' => by
      refine ⟨.ref a, rfl, a, rfl, ⟨xs, hs⟩, fun D hD => ?_⟩
      have x0 : Ex H5 (upd H5 D (.dK [])) := Ex.new hD
      refine dc_tup (K := K) (xs := xs) (fun i H' => ∃ kvs, Bar D (upd H5 D (.dK [])) H' ∧ H' D = some (.dK kvs) ∧ DI ks kvs (fRows (rs.take i))) ⟨[], Bar.refl D _, upd_same, DI.nil⟩ (fun i H' _ h => ?_) (fun i x H' hx h => ?_) (fun H' h => ?_)
      · obtain ⟨kvs, b, _, _⟩ := h
        exact bar_t (kvs := []) upd_same b (Evl.ex_t x0 hs)
      · obtain ⟨kvs, b, hD', di⟩ := h
        obtain ⟨d, hd, hxd⟩ := dps_at (dps_bar (kvs := []) upd_same b _ _ (dps_same x0 _ _ hA)) hx
        rw [List.getElem?_map] at hd
        obtain ⟨r, hr', rfl⟩ := Option.map_eq_some_iff.mp hd
        obtain ⟨pa, u0, u1, rfl, ht, h0, h1⟩ := dpt2 hxd
        cases h0
        cases h1
        refine ⟨pa, _, rfl, ht, rfl, _, _, rfl, _, _, rfl, rfl, rfl, ?_⟩
        refine iteT (B := ∃ kvs, Bar D (upd H5 D (.dK [])) H' ∧ H' D = some (.dK kvs) ∧ DI ks kvs (fRows (rs.take (i + 1)))) ⟨_, rfl, _, rfl, kvs, .inl r.1, rfl, hD', sz_lt (by have := di.len; omega), putK kvs (.inl r.1) (.int r.2), b.put, upd_same, ?_⟩
        have tk : rs.take (i + 1) = rs.take i ++ [r] := by
          rw [List.take_succ, hr']
          rfl
        rw [tk]
        unfold fRows
        rw [List.map_append, appl_app]
        exact di.put (hrs r (List.mem_of_getElem? hr'))
      · obtain ⟨kvs, b, hD', di⟩ := h
        rw [hlen, List.take_length] at di
        exact q' D kvs H' hD (b.exOf x0 hD) hD' di
    refine s_seq (mkD _ fun dW kvs H6 nW x6 hW di => ?_)
    have J6 := J5.new nW x6 hW
    refine ⟨.ref p, rfl, p, C, dx, _, rfl, J6.ob, T.cl, T.aW, by omega, ?_⟩
    have J7 := J6.fld (putF "worths" (.ref dW) (putF "many_given" (.int 0) (putF "due" (.ref du) (putF "at" (.int (st : Int)) (putF "log" (.ref l) [])))))
    have n5 := putF_le (f := "worths") (v := .ref dW) n4
    generalize upd H6 p (.ins C dx (putF "worths" (.ref dW) (putF "many_given" (.int 0) (putF "due" (.ref du) (putF "at" (.int (st : Int)) (putF "log" (.ref l) [])))))) = H7 at J7
    have lw : (putF "worths" (.ref dW) (putF "many_given" (.int 0) (putF "due" (.ref du) (putF "at" (.int (st : Int)) (putF "log" (.ref l) []))))).lookup ("worths" : Str) = some (.ref dW) := by
      simp only [putF, List.lookup]
      rfl
    dsimp only
    have hW7 := (J7.nws _ List.mem_cons_self).1
    refine s_seq ⟨_, rfl, p, C, dx, _, _, rfl, J7.ob, T.cl, T.aW, lw, .ref l, rfl, .int (st : Int), rfl, dW, l, ks, kvs, fRows rs, ds, 0, st, rfl, hW7, di, h64, ini_log J7 ob4 hl4, Nat.zero_le _, fun kvs2 H8 b8 hW8 di8 => ?_⟩
    rw [worths_start] at di8
    have J8 := ini_chg J7 b8 hW8
    dsimp only
    refine ini_g J8 (fun Q' q' => new_d q') rfl T.cl T.aS (by omega) fun dS H9 J9 => ?_
    have ob9 := J9.ob
    have ef : putF "settled" (.ref dS) (putF "worths" (.ref dW) (putF "many_given" (.int 0) (putF "due" (.ref du) (putF "at" (.int (st : Int)) (putF "log" (.ref l) []))))) = wfl l du dW dS (st : Int) ((0 : Nat) : Int) := by
      simp only [wfl, putF]
      rfl
    rw [ef] at ob9
    have nn := fun q m => (J9.nws q m)
    simp only [List.mem_cons, List.not_mem_nil, or_false] at nn
    obtain ⟨s1, s2, s3⟩ := nn _ (.inl rfl)
    obtain ⟨w1, w2, w3⟩ := nn _ (.inr rfl)
    have nd9 := J9.nd
    simp only [List.map_cons, List.map_nil, List.nodup_cons, List.mem_cons, List.not_mem_nil, or_false] at nd9
    have back : ∀ a, H4 a = none → H a = none := fun a e => I4.fr a e
    refine q du dW dS H9 (back _ w2) (back _ s2) (fun a o n h => J9.bb a o n (I4.bb a o n h)) ⟨⟨dx, ob9⟩, ini_log J9 ob4 hl4, ⟨dv, J9.bb _ _ pu hdu4, (ini_kt J9 ob4).dps (n := 1) (fun d m => by
      obtain ⟨e', _, rfl⟩ := List.mem_map.mp m
      exact nl_ev _) dD4⟩, ⟨kvs2, w1, di8⟩, ⟨[], s1, MI.nil⟩, fun z => nd9.1 z.symm⟩
set_option maxHeartbeats 1000000 in
theorem ok_fw {f C fW fA : Addr} {fd fdW fdA : FuncData} {kW kA k : Nat} (F : Fun K "first_wrong" "first_wrong" sFw f fd) (N : Names mg) (T : WTx K mg C) (mkW : Mk K C fW) (FW : FnOk P w K mg base CX0 kW fW fdW ["self", "table", "log", "start"] (spWin K C)) (bW : Binds K fdW ["self", "table", "log", "start"] []) (hW : kW + 1 ≤ k)
    (FA : FnOk P w K mg base CX0 kA fA fdA ["self", "event"] (spAcc K C)) (bA : Binds K fdA ["self", "event"] []) (mA : Meth K C "accepts" fA) (hA : kA ≤ k) : FnOk P w K mg base CX0 (k + 1) f fd ["table", "log", "events", "start"] (spFw K) := by
  refine F.ok scFw (fun vs H Q E h => ?_) (fun cdv A outer s H vs Q E hr h => ?_)
  · obtain ⟨vt, l, el, rs, ks, ds, st, us, es, rfl, _⟩ := h
    rfl
  · obtain ⟨vt, l, el, rs, ks, ds, st, us, es, rfl, hd, hrs, h64, hkb, hl, dl, cl, sl, hs, dE, ge, el', q⟩ := h
    refine ⟨_, (pss_cons (ps_set (i := 4) scFw.nd rfl (.inl rfl) (pe_make mkW FW (hr.mono hW) (by rfl) T.mgC bW .nil pass0 (pa_cons (pv 0) (pa_cons (pv 1) (pa_cons (pv 3) pa_nil)))))
      (pss_cons (ps_for PassesOwn.never rfl (pi_enum rfl N.enumerate (pa_cons (pv 2) pa_nil)) (pg_tup rfl (pgs_cons (pg_name (i := 5) scFw.nd rfl (.inl rfl)) (pgs_cons (pg_name (i := 6) scFw.nd rfl (.inl rfl)) pgs_nil))) (pss_one (ps_if (pt_not (pt_val (pe_meth (pv 4) T.cl mA FA (hr.mono hA) bA .nil pass0 (pa_cons (pv 6) pa_nil)))) (pss_one (ps_ret (pv 5))) pss_nil)))
      (pss_one (ps_ret pe_non)))), ?_⟩
    refine s_seq ⟨vt, rfl, .ref l, rfl, .int (st : Int), rfl, fun x dx hx hdx ne => ?_⟩
    have x1 : Ex H (upd (upd H dx (.own x)) x (.ins C dx [])) := (Ex.new hdx).trans (Ex.new (by rw [upd_ne (Ne.symm ne)]; exact hx))
    have hx1 : (upd (upd H dx (.own x)) x (.ins C dx [])) x = some (.ins C dx []) := upd_same
    generalize upd (upd H dx (.own x)) x (.ins C dx []) = H1 at x1 hx1
    refine ⟨x, dx, l, vt, rs, ks, ds, st, rfl, hx1, dp_same x1 _ _ hd, hrs, h64, hl.same x1, dl, cl, sl, fun du dW dS H2 nW nS bb W => ⟨rfl, g_name ?_⟩⟩
    dsimp only
    have x2 : Ex H H2 := fun a o h => bb a o (fun z => by rw [z, hx] at h; cases h) (x1 a o h)
    have exO : ∀ H', Off (wX x dW dS) H2 H' → Ex H H' := fun H' off a o h => off a o (fun z => by
      rcases z with rfl | rfl | rfl
      · rw [hx] at h; cases h
      · rw [fresh_back x1 nW] at h; cases h
      · rw [fresh_back x1 nS] at h; cases h) (x2 a o h)
    have dE2 := dps_same x2 _ _ dE
    have ul : us.length = es.length := by rw [dps_len dE, List.length_map]
    refine s_seq ⟨.ref el, rfl, el, us, rfl, Evl.ex_l x2 hs, ?_⟩
    refine for_it (walk_enum (K := K) (a := el) (xs := us)) (fun i σ' H' => ∃ y5 y6 s1, σ' = [some vt, some (.ref l), some (.ref el), some (.int (st : Int)), some (.ref x), y5, y6] ∧ Off (wX x dW dS) H2 H' ∧ runW rs ds st ⟨st, 0, []⟩ (es.take i) = some s1 ∧ WkV K C x l du dW dS ks rs ds st s1.at' s1.g (setS ds st s1) H') ⟨none, none, ⟨st, 0, []⟩, rfl, fun a o _ h => h, rfl, W.iff fun k => ⟨False.elim, fun z => z.elim (fun y => mvd_same y) fun m => by cases m⟩⟩ (fun i σ' H' _ ⟨_, _, _, _, off, _⟩ => Evl.ex_l (exO H' off) hs) (fun i v σ' H' G hi h y => ?_) (fun σ' H' h => ?_)
    · obtain ⟨y5, y6, s1, rfl, off, run, W1⟩ := h
      obtain ⟨t, v0, xe, rfl, ht, rfl, e1, e2⟩ := y
      cases e1
      obtain ⟨d, hd', hxd⟩ := dps_at dE e2
      rw [List.getElem?_map] at hd'
      obtain ⟨ev, he, rfl⟩ := Option.map_eq_some_iff.mp hd'
      have xt : Ex H' (upd H' t (.tup [.int (i : Int), xe])) := Ex.new ht
      have ht' : (upd H' t (.tup [.int (i : Int), xe])) t = some (.tup [.int (i : Int), xe]) := upd_same
      generalize upd H' t (.tup [.int (i : Int), xe]) = G at xt ht'
      have exG : Ex H G := (exO H' off).trans xt
      have W2 := W1.ex xt
      obtain ⟨dx2, hp2⟩ := W2.ob
      refine ⟨t, _, rfl, st_of ht', rfl, _, _, rfl, _, _, rfl, rfl, ?_⟩
      dsimp only
      obtain ⟨r1, r2, r3, r4⟩ := run_at run
      have g4 : s1.g ≤ 10000 := by
        have := List.length_take_le i es
        have e0 : (⟨st, 0, []⟩ : WkS).g = 0 := rfl
        omega
      refine ⟨_, rfl, x, dx2, _, rfl, hp2, wl_no _ (by decide +kernel), xe, rfl, x, l, du, dW, dS, ks, rs, ds, st, s1, xe, ev, rfl, W2, h64, hkb, r1, g4, dp_same exG _ _ hxd, ge ev (List.mem_of_getElem? he), fun ha G2 off2 => ⟨false, rfl, ite2 (fun _ => ?_) fun e => absurd rfl e⟩, fun s2 ha G2 off2 W3 => ⟨true, rfl, ite2 (fun e => by cases e) fun _ => s_next ?_⟩⟩
      · have e := wrong_here run he ha
        rw [e] at q
        exact ⟨_, rfl, q G2 (exO G2 fun a o n h => off2 a o n (xt a o (off a o n h)))⟩
      · exact ⟨_, _, s2, rfl, fun a o n h => off2 a o n (xt a o (off a o n h)), (run_snoc run he).trans ha, W3⟩
    · obtain ⟨y5, y6, s1, rfl, off, run, W1⟩ := h
      rw [ul, List.take_length] at run
      dsimp only
      have e := wrong_run es _ _ 0 run
      rw [e] at q
      exact q H' (exO H' off)
end
end K29
/-! x not in a tuple of data; tuples put together on the way -/
namespace Tc
open PySem PySem.Spec PyProof.Rows L2 Evl
section
variable {X : Cx}
def rNotInT (K : PySem.W.Frag) : R2 := fun x y H Q => ∃ d ds, Dp K H x d ∧ Dp K H y (.tuple ds) ∧ SeqAt.shaped d = true ∧ SeqAt.shaped (.tuple ds) = true ∧ Q (.bl (!ds.any fun z => PyData.eqv z d)) H
theorem op_notInT (hu : X.A.units + 65 < cLine) : OpR X (compareOp .NotIn) (rNotInT X.K) := fun pins s σ H x y v u Q I rx ry ⟨d, ds, hd, he, sd, se, q⟩ => by
  obtain ⟨as, r1⟩ := Dp.reads I d x v hd rx
  obtain ⟨bs, r2⟩ := Dp.reads I (.tuple ds) y u he ry
  exact SeqAt.notIn_tuple_reads r2 r1 (SeqAt.canLay_of_shaped se) (SeqAt.canLay_of_shaped sd) (room_in_shaped sd hu) ⟨.bl _, H, I, rfl, q⟩
end
/-- te makes a tuple of xs -/
def EvTp (K : PySem.W.Frag) (te : TE) (σ : L2.St) (H : Hp) (xs : List V) : Prop := ∀ H1, Ex H H1 → ∀ Q : VK, (∀ a H2, Ex H1 H2 → SqT K H2 a xs → Q (.ref a) H2) → te σ H1 Q
section
variable {K : PySem.W.Frag} {σ : L2.St} {H : Hp}
theorem tp_var {i : Nat} {a : Addr} {xs : List V} (hi : σ[i]? = some (some (.ref a))) (h : SqT K H a xs) : EvTp K (tVar i) σ H xs := fun H1 x Q q => ⟨_, hi, q a H1 (Ex.refl H1) (Evl.ex_t x h)⟩
theorem tp_tup {ta : TA} {vs : List V} (h : EvA ta σ H vs) (l : vs.length ≤ 1000) : EvTp K (tTup ta) σ H vs := fun H1 x Q q => h H1 x _ fun H2 x2 => ⟨sz_of (by omega), fun p hp => q p _ (x2.trans (Ex.new hp)) (st_of upd_same)⟩
theorem tp_cat {ta tb : TE} {xs ys : List V} (ha : EvTp K ta σ H xs) (hb : EvTp K tb σ H ys) (l : xs.length + ys.length ≤ 1000) : EvTp K (tOp (rCatA K) ta tb) σ H (xs ++ ys) := fun H1 x Q q =>
  ha H1 x _ fun a H2 x2 h2 => hb H2 (x.trans x2) _ fun b H3 x3 h3 => by
    refine ⟨a, b, xs, ys, rfl, rfl, Evl.ex_t x3 h2, h3, sz_of (by omega), fun z => ?_, fun _ z => ?_, fun _ _ t ht => ?_⟩
    · rw [z, List.nil_append] at q
      exact q b H3 (x2.trans x3) h3
    · rw [z, List.append_nil] at q
      exact q a H3 (x2.trans x3) (Evl.ex_t x3 h2)
    · exact q t _ ((x2.trans x3).trans (Ex.new ht)) (st_of upd_same)
theorem tp_sl {te : TE} {tl th : TO} {xs : List V} {lo hi : Option Int} (h : EvTp K te σ H xs) (h1 : EvO tl σ H lo) (h2 : EvO th σ H hi) : EvTp K (tSl (rSlA K) te tl th) σ H (cutV xs lo hi) := fun H1 x Q q =>
  h H1 x _ fun a H2 x2 hs => h1 H2 (x.trans x2) _ fun H3 x3 => h2 H3 ((x.trans x2).trans x3) _ fun H4 x4 => by
    have y := (x2.trans x3).trans x4
    refine ⟨a, xs, rfl, Evl.ex_t (x3.trans x4) hs, fun w => ?_, fun _ t ht => q t _ (y.trans (Ex.new ht)) (st_of upd_same)⟩
    have ec : cutV xs lo hi = xs := by
      unfold cutV
      rw [w.1, w.2, List.drop_zero, Nat.sub_zero, List.take_length]
    rw [ec] at q
    exact q a H4 y (Evl.ex_t (x3.trans x4) hs)
theorem ev_ixTp {te ti : TE} {xs : List V} {i : Int} {v : V} (h : EvTp K te σ H xs) (hi : Ev ti σ H (.int i)) (hx : atI xs i = some v) : Ev (tOp (rIxT K) te ti) σ H v := fun H1 x Q q =>
  h H1 x _ fun a H2 x2 hs => hi H2 (x.trans x2) _ fun H3 x3 => ⟨a, xs, i, v, rfl, rfl, Evl.ex_t x3 hs, hx, q H3 (x2.trans x3)⟩
/-- if t or u: what t comes to is known -/
theorem if_or {t1 u1 : TT} {tu tw : TS} {Dd : Ends} {b1 : Bool} (ht : EvT t1 σ H b1) (y : b1 = true → ∀ H1, Ex H H1 → tu Dd σ H1) (n : b1 = false → ∀ H1, Ex H H1 → tIfS u1 tu tw Dd σ H1) : tIfS (tOr t1 u1) tu tw Dd σ H := ht H (Ex.refl H) _ fun H1 x1 => by
  cases b1 with
  | true =>
    rw [if_pos rfl]
    show (if true = true then tu Dd σ H1 else tw Dd σ H1)
    rw [if_pos rfl]
    exact y rfl H1 x1
  | false =>
    rw [if_neg Bool.false_ne_true]
    exact n rfl H1 x1
end
end Tc
namespace K29
open PySem L2 PyProof.Rows Tc Evl
/-- by what holds between two rows -/
theorem seq_mid {a b : TS} {D : Ends} {σ : L2.St} {H : Hp} (R : L2.St → Hp → Prop) (h1 : (∀ σ' G, R σ' G → b D σ' G) → tSeq a b D σ H) (h2 : ∀ σ' G, R σ' G → b D σ' G) : tSeq a b D σ H := h1 h2
theorem units1 {k : Nat} {A : Around} (r : Room k A) : A.units + 65 < cLine := by have := r.un; omega
abbrev sWa : Stmt := topS 33
theorem scWa : FnScope ["table", "log", "events", "sta1", "due", "at", "changes", "copied", "last", "event", "place", "word", "key", "worth", "change"] ["table", "log", "events", "sta1"] (defScope sWa) := ⟨rfl, rfl, rfl, by decide +kernel, rfl, by decide +kernel, by decide +kernel⟩
def spWa (K : PySem.W.Frag) : Sp := fun vs H Q _ => ∃ (pt l el : Addr) (rs : List (Int × Int)) (ks : List Int) (ds : List PyData) (st : Nat) (us : List V) (es : List Evt), vs = [.ref pt, .ref l, .ref el, .int (st : Int)] ∧ TP K H pt rs ∧ (∀ r ∈ rs, r.1 ∈ ks) ∧ ks.length < 64 ∧ LogAt K H l ks ds ∧ ds.length ≤ 100 ∧ (∀ d ∈ ds, (chsD d).length ≤ 10) ∧ st ≤ ds.length ∧
  SqL K H el us ∧ DpAll K H us (es.map evD) ∧ (∀ e ∈ es, goodEv ks e) ∧ es.length ≤ 5000 ∧ ∀ H', Ex H H' → Q (resV (wrong rs ds st ⟨st, 0, []⟩ 0 es)) H'
theorem cut_two (a b : V) (r : List V) : cutV (a :: b :: r) none (some 2) = [a, b] := by
  rw [show (2 : Int) = ((2 : Nat) : Int) from rfl, cut_none (a :: b :: r) 2 (by simp)]
  rfl
theorem ev_tuple4 {K : PySem.W.Frag} {H : Hp} {v : V} {e : Evt} (hv : Dp K H v (evD e)) : ∃ a, v = .ref a ∧ SqT K H a [.int e.1, .str e.2.1, .int e.2.2.1, opV e.2.2.2] := by
  obtain ⟨pl, wd, kk, x⟩ := e
  cases hv with
  | tup hs hr =>
    cases hr with
    | cons h0 hr => cases hr with
      | cons h1 hr => cases hr with
        | cons h2 hr => cases hr with
          | cons h3 hr =>
            cases hr
            cases h0
            cases h1
            cases h2
            refine ⟨_, rfl, ?_⟩
            cases x with
            | none => cases h3; exact hs
            | some z => cases h3; exact hs
/-- is the row among those that are there -/
theorem any_row {f : Int → Option Int} {js : List Int} (kf : KeysOf f js) (k : Int) (x : Option Int) : (((rowsOf f js).map Tc.pairD).any fun z => PyData.eqv z (.tuple [.int k, opD x])) = decide (f k = x ∧ x.isSome = true) := by
  rw [Bool.eq_iff_iff, List.any_eq_true, decide_eq_true_eq]
  constructor
  · rintro ⟨d, md, e⟩
    obtain ⟨r, mr, rfl⟩ := List.mem_map.mp md
    obtain ⟨j, mj, rfl⟩ := List.mem_map.mp mr
    obtain ⟨z, hz⟩ := Option.isSome_iff_exists.mp ((kf.2 j).mp mj)
    cases x with
    | none => simp [Tc.pairD, PyData.eqv, PyData.eqvAll, opD] at e
    | some y =>
      have e2 : j = k ∧ (f j).getD 0 = y := by simpa [Tc.pairD, PyData.eqv, PyData.eqvAll, opD] using e
      rw [hz] at e2
      obtain ⟨rfl, e3⟩ := e2
      rw [hz, ← e3]
      exact ⟨rfl, rfl⟩
  · rintro ⟨e1, e2⟩
    obtain ⟨y, rfl⟩ := Option.isSome_iff_exists.mp e2
    refine ⟨Tc.pairD (k, y), List.mem_map.mpr ⟨(k, y), List.mem_map.mpr ⟨k, (kf.2 k).mpr (by rw [e1]; rfl), by rw [e1]; rfl⟩, rfl⟩, ?_⟩
    simp [Tc.pairD, PyData.eqv, PyData.eqvAll, opD]
/-- what is due for a change -/
theorem ev_dueG {K : PySem.W.Frag} {σ : L2.St} {H : Hp} {ks : List Int} {te0 : TE} {z : Int} {cc : Nat} {y : V} {c : PyData} (h0 : Ev te0 σ H (.int z)) (h14 : σ[cc]? = some (some y)) (hy : Dp K H y c) (g : goodCh ks c = true) (Q : VK) (q : ∀ t H', Ex H H' → Dp K H' (.ref t) (evD (evC z (chD c))) → Q (.ref t) H') : (tOp (rCatA K) (tOp (rCatA K) (tTup (tCons te0 tNil)) (tSl (rSlA K) (tVar cc) tNoPart (tPart (tC (.int 2))))) (tTup (tCons (tOp (rIxT K) (tOp (rCatA K) (tVar cc) (tTup (tCons (tC .non) tNil))) (tC (.int 2))) tNil))) σ H Q := by
  have at1 : EvA (tCons te0 tNil) σ H [.int z] := ea_cons h0 ea_nil
  rcases ch_kind g with ⟨kk, rfl, mk⟩ | ⟨kk, zz, rfl, mk⟩
  · obtain ⟨pa, u0, u1, rfl, ht, h0, h1⟩ := dpt2 hy
    cases h0
    cases h1
    have e1 := tp_cat (tp_tup (K := K) at1 (by simp)) (tp_sl (tp_var h14 ht) eo_none (eo_some ev_c)) (by rw [cut_two]; simp)
    rw [cut_two] at e1
    have e2 := tp_cat e1 (tp_tup (K := K) (ea_cons (ev_ixTp (tp_cat (tp_var h14 ht) (tp_tup (K := K) (ea_cons (x := .non) ev_c ea_nil) (by simp)) (by simp)) ev_c (atI_nat (j := 2) rfl)) ea_nil) (by simp)) (by simp)
    exact e2 H (Ex.refl H) Q fun t H' x hs => q t H' x (.tup hs (.cons (.int _) (.cons (.str _) (.cons (.int _) (.cons .non .nil)))))
  · obtain ⟨pa, u0, u1, u2, rfl, ht, h0, h1, h2⟩ := dpt3 hy
    cases h0
    cases h1
    cases h2
    have e1 := tp_cat (tp_tup (K := K) at1 (by simp)) (tp_sl (tp_var h14 ht) eo_none (eo_some ev_c)) (by rw [cut_two]; simp)
    rw [cut_two] at e1
    have e2 := tp_cat e1 (tp_tup (K := K) (ea_cons (ev_ixTp (tp_cat (tp_var h14 ht) (tp_tup (K := K) (ea_cons (x := .non) ev_c ea_nil) (by simp)) (by simp)) ev_c (atI_nat (j := 2) rfl)) ea_nil) (by simp)) (by simp)
    exact e2 H (Ex.refl H) Q fun t H' x hs => q t H' x (.tup hs (.cons (.int _) (.cons (.str _) (.cons (.int _) (.cons (.int zz) .nil)))))
theorem ev_due {K : PySem.W.Frag} {σ : L2.St} {H : Hp} {ks : List Int} {i : Int} {y : V} {c : PyData} (h5 : σ[5]? = some (some (.int i))) (h14 : σ[14]? = some (some y)) (hy : Dp K H y c) (g : goodCh ks c = true) (Q : VK) (q : ∀ t H', Ex H H' → Dp K H' (.ref t) (evD (evC (i + 1) (chD c))) → Q (.ref t) H') : (tOp (rCatA K) (tOp (rCatA K) (tTup (tCons (tOp (rI0 fun i j => .int (i + j)) (tVar 5) (tC (.int 1))) tNil)) (tSl (rSlA K) (tVar 14) tNoPart (tPart (tC (.int 2))))) (tTup (tCons (tOp (rIxT K) (tOp (rCatA K) (tVar 14) (tTup (tCons (tC .non) tNil))) (tC (.int 2))) tNil))) σ H Q := ev_dueG (ev_op (ev_var h5) ev_c rv_add) h14 hy g Q q
section
variable {P : Program} {w : World} {K : PySem.W.Frag} {mg : Str → Option Value} {base : Heap}
set_option maxHeartbeats 2000000 in
theorem ok_wa {f : Addr} {fd : FuncData} {kGr kMv kAt k : Nat} (F : Fun K "_law_wrong_at" "_law_wrong_at" sWa f fd) (N : Names mg) (dGr : Own P w K mg base "_law_groups" ["log"] kGr (spGroups K)) (hGr : kGr ≤ k) (dMv : Own P w K mg base "_law_moved" ["log", "low", "high"] kMv (spMoved K)) (hMv : kMv ≤ k) (dAt : Own P w K mg base "_law_at" ["table", "log", "place"] kAt (spAt K)) (hAt : kAt ≤ k) : FnOk P w K mg base CX0 (k + 1) f fd ["table", "log", "events", "sta1"] (spWa K) := by
  refine F.ok scWa (fun vs H Q E h => ?_) (fun cdv A outer s H vs Q E hr h => ?_)
  · obtain ⟨pt, l, el, rs, ks, ds, st, us, es, rfl, _⟩ := h
    rfl
  · obtain ⟨pt, l, el, rs, ks, ds, st, us, es, rfl, hpt, hrs, h64, hl, dl, cl, sl, hs, dE, ge, elen, q⟩ := h
    refine ⟨_, (pss_cons (ps_set (i := 4) scWa.nd rfl (.inl rfl) (pe_lst pa_nil))
      (pss_cons (ps_for PassesOwn.never rfl (pi_enum rfl N.enumerate (pa_cons (pe_own dGr hr hGr (by rfl) (pa_cons (pv 1) pa_nil)) pa_nil)) (pg_tup rfl (pgs_cons (pg_name (i := 5) scWa.nd rfl (.inr rfl)) (pgs_cons (pg_name (i := 6) scWa.nd rfl (.inl rfl)) pgs_nil))) (pss_one (ps_if (pt_cmpR op_ge (pv 5) (pv 3) (nomark _)) (pss_one (ps_set (i := 4) scWa.nd rfl (.inl rfl) (pe_op op_cat (pv 4) (pe_lc (own := [("change", 14)]) (g := gName 14) (tt := tYes) (te := (tOp (rCatA K) (tOp (rCatA K) (tTup (tCons (tOp (rI0 fun i j => .int (i + j)) (tVar 5) (tC (.int 1))) tNil)) (tSl (rSlA K) (tVar 14) tNoPart (tPart (tC (.int 2))))) (tTup (tCons (tOp (rIxT K) (tOp (rCatA K) (tVar 14) (tTup (tCons (tC .non) tNil))) (tC (.int 2))) tNil)))) rfl scWa.nd (pi_tup (pv 6)) (blkOk_by (N := ["table", "log", "events", "sta1", "due", "at", "changes", "copied", "last", "event", "place", "word", "key", "worth", "change"]) (sc := defScope sWa) (by decide +kernel)) (fun _ _ _ _ _ => pg_name (i := 14) scWa.nd rfl (Or.inl rfl)) (fun _ _ _ _ _ => pts_nil) (fun _ _ _ _ _ => (pe_op op_catA (pe_op op_catA (pe_tup (pa_cons (pe_op op_add (pv 5) pe_int) pa_nil)) (pe_slice sl_tupA (pv 14) po_none (po_some pe_int))) (pe_tup (pa_cons (pe_ix ix_tup (pe_op op_catA (pv 14) (pe_tup (pa_cons pe_non pa_nil))) pe_int (fun _ _ => rfl)) pa_nil)))))))) pss_nil)))
      (pss_cons (ps_set (i := 7) scWa.nd rfl (.inl rfl) (pe_lst pa_nil))
      (pss_cons (ps_set (i := 8) scWa.nd rfl (.inl rfl) (pv 3))
      (pss_cons (ps_for PassesOwn.never rfl (pi_enum rfl N.enumerate (pa_cons (pv 2) pa_nil)) (pg_tup rfl (pgs_cons (pg_name (i := 5) scWa.nd rfl (.inr rfl)) (pgs_cons (pg_name (i := 9) scWa.nd rfl (.inl rfl)) pgs_nil))) (pss_cons (ps_asg (pv 9) (pg_tup rfl (pgs_cons (pg_name (i := 10) scWa.nd rfl (.inl rfl)) (pgs_cons (pg_name (i := 11) scWa.nd rfl (.inl rfl)) (pgs_cons (pg_name (i := 12) scWa.nd rfl (.inl rfl)) (pgs_cons (pg_name (i := 13) scWa.nd rfl (.inl rfl)) pgs_nil))))))
      (pss_cons (ps_if (pt_cmpR op_lt (pv 10) (pv 8) (nomark _)) (pss_one (ps_ret (pv 5))) pss_nil)
      (pss_cons (ps_if (pt_cmpR op_eq (pv 11) pe_str (nomark _)) (pss_cons (ps_if (PW.pt (pw_or (pt_cmpR op_gt (pv 10) (pe_callB call_len_seq (by rfl) N.len PySem.boot_len (pa_cons (pv 1) pa_nil)) (nomark _)) (pw_or (pt_cmp (pc_din (hu_of hr) (pv 12) (pe_own dMv hr hMv (by rfl) (pa_cons (pv 1) (pa_cons (pv 3) (pa_cons (pv 10) pa_nil)))))) (pw_or1 (pt_cmpR op_in_seq (pv 12) (pv 7) (by rfl)))))) (pss_one (ps_ret (pv 5))) pss_nil)
      (pss_cons (ps_if (pt_cmpR (op_notInT (units1 hr)) (pe_tup (pa_cons (pv 12) (pa_cons (pv 13) pa_nil))) (pe_own dAt hr hAt (by rfl) (pa_cons (pv 0) (pa_cons (pv 1) (pa_cons (pv 10) pa_nil)))) (by rfl)) (pss_one (ps_ret (pv 5))) pss_nil)
      (pss_one (ps_expr (pe_bm PySem.F.plainAttrs_list PySem.F.slot_list_append PySem.F.type_list_append mt_append (pv 7) (pa_cons (pv 12) pa_nil)))))) (pss_one (ps_if (PW.pt (pw_or (pt_cmpR (op_eqE hr.units) (pv 4) (pe_lst pa_nil) (nomark _)) (pw_or1 (pt_cmpR (op_neD hr.units) (pe_bm PySem.F.plainAttrs_list PySem.F.slot_list_pop PySem.F.type_list_pop mt_popAt (pv 4) (pa_cons pe_int pa_nil)) (pv 9) (nomark _))))) (pss_one (ps_ret (pv 5))) pss_nil)))
      (pss_one (ps_set (i := 8) scWa.nd rfl (.inl rfl) (pv 10)))))))
      (pss_one (ps_ret pe_non))))))), ?_⟩
    refine s_seq ⟨Nat.zero_le _, fun D0 hD0 => g_name ?_⟩
    dsimp only
    have x0 : Ex H (upd H D0 (.lst [])) := Ex.new hD0
    have hD01 : (upd H D0 (.lst [])) D0 = some (.lst []) := upd_same
    generalize upd H D0 (.lst []) = H0 at x0 hD01
    refine s_seq ⟨.ref l, rfl, l, ks, ds, rfl, hl.same x0, by omega, fun pg gs H1 npg x1 hg dG => ?_⟩
    have gl := dps_len dG
    rw [List.length_map] at gl
    have x01 := x0.trans x1
    refine ⟨pg, gs, rfl, sq_of hg, ?_⟩
    refine for_it (walk_enum (K := K) (a := pg) (xs := gs)) (fun i σ' H' => ∃ y5 y6 Dl vs, σ' = [some (.ref pt), some (.ref l), some (.ref el), some (.int (st : Int)), some (.ref Dl), y5, y6, none, none, none, none, none, none, none, none] ∧ H Dl = none ∧ Ex H1 H' ∧ H' Dl = some (.lst vs) ∧ DpAll K H' vs ((duesTo ds st i).map evD)) ⟨none, none, D0, [], rfl, hD0, Ex.refl H1, x1 _ _ hD01, ?_⟩ (fun i σ' H' _ ⟨_, _, _, _, _, _, x, _⟩ => sq_of (x _ _ hg)) (fun i v σ' H' G hi h y => ?_) (fun σ' H' h => ?_)
    · have e0 : duesTo ds st 0 = [] := by
        unfold duesTo
        rw [Nat.zero_sub, List.take_zero]
        rfl
      rw [e0]
      exact .nil
    · obtain ⟨y5, y6, Dl, vs, rfl, nDl, xH, hDl, dV⟩ := h
      obtain ⟨t, v0, xe, rfl, ht, rfl, e1, e2⟩ := y
      cases e1
      obtain ⟨gd, hgd, hxg⟩ := dps_at dG e2
      rw [List.getElem?_map] at hgd
      obtain ⟨d, hd, rfl⟩ := Option.map_eq_some_iff.mp hgd
      have xt : Ex H' (upd H' t (.tup [.int (i : Int), xe])) := Ex.new ht
      have ht' : (upd H' t (.tup [.int (i : Int), xe])) t = some (.tup [.int (i : Int), xe]) := upd_same
      generalize upd H' t (.tup [.int (i : Int), xe]) = G at xt ht'
      refine ⟨t, _, rfl, st_of ht', rfl, _, _, rfl, _, _, rfl, rfl, ?_⟩
      dsimp only
      have dV2 := dps_same xt _ _ dV
      have hDl2 := xt _ _ hDl
      refine s_if (b := decide (st ≤ i)) (et_is (et_test (ev_op (ev_var rfl) (ev_var rfl) rv_I0)) (by by_cases z : st ≤ i <;> simp [z])) (fun hb H3 x3 => ?_) fun hb H3 x3 => ?_
      · have hb := of_decide_eq_true hb
        have xg := (xH.trans xt).trans x3
        have hxg3 := dp_same xg _ _ hxg
        unfold grD at hxg3
        obtain ⟨qa, ws, rfl, hq, hc⟩ : ∃ qa ws, xe = .ref qa ∧ SqT K H3 qa ws ∧ DpAll K H3 ws (chsD d) := by
          cases hxg3 with
          | tup h1 h2 => exact ⟨_, _, rfl, h1, h2⟩
        have gd := hl.good d (List.mem_of_getElem? hd)
        have hgc : ∀ c ∈ chsD d, goodCh ks c = true := by
          rcases en_kind gd with ⟨cs, rfl, h⟩ | ⟨s, i, j, rfl, _⟩
          · exact h
          · exact fun c m => by cases m
        have wl := dps_len hc
        have dc := cl d (List.mem_of_getElem? hd)
        refine ⟨.ref Dl, rfl, ?_⟩
        refine lc_dataW (K := K) (k := 1) (walk_tup (K := K) (a := qa) (xs := ws)) (chsD d) (fun _ => true) (fun c => evD (evC ((i : Int) + 1) (chD c))) (fun c σ2 H2 => ∃ y, σ2 = [some (.ref pt), some (.ref l), some (.ref el), some (.int (st : Int)), some (.ref Dl), some (.int (i : Int)), some (.ref qa), none, none, none, none, none, none, none, some y] ∧ Dp K H2 y c) (fun R hR => ⟨.ref qa, rfl, qa, rfl, ⟨ws, hq⟩, hR⟩) wl.symm (by omega) (fun H4 x4 => Evl.ex_t x4 hq) (fun j z y H4 H5 hz x4 yy => ?_) (fun z σ2 H4 mz x4 hB => ?_) (fun z σ2 H4 H5 mz x4 hB x5 _ Q' q' => ?_) (fun z mz => nl_ev _) (fun L acc H4 nL x4 hL dA => ?_)
        · obtain ⟨rfl, ey⟩ := yy
          refine ⟨Ex.refl _, fun R hR => hR _ rfl ⟨y, rfl, ?_⟩⟩
          obtain ⟨c', hc', hy⟩ := dps_at hc ey
          rw [hz] at hc'
          cases hc'
          exact dp_same x4 _ _ hy
        · exact fun H5 x5 Q' q' => q' H5 (Ex.refl H5)
        · obtain ⟨y, rfl, hy⟩ := hB
          exact ev_due (ks := ks) rfl rfl (dp_same x5 _ _ hy) (hgc z mz) Q' fun t H' x hd => q' _ H' x hd
        · have ef : ((chsD d).filter fun _ => true) = chsD d := List.filter_eq_self.mpr fun _ _ => rfl
          rw [ef] at dA
          have hDl4 := x4 _ _ (x3 _ _ hDl2)
          have dV4 := dps_same (x3.trans x4) _ _ dV2
          have vl := dps_len dV4
          have al := dps_len dA
          rw [List.length_map] at vl al
          have v2 : (duesTo ds st i).length ≤ 2000 := by
            unfold duesTo
            have := duesF_len ((ds.drop st).take (i - st)) st fun d' m => cl d' (List.mem_of_mem_drop (List.mem_of_mem_take m))
            rw [List.length_take, List.length_drop] at this
            omega
          refine ⟨Dl, L, vs, acc, rfl, rfl, hDl4, hL, sz_of (by omega), fun D2 hD2 => g_name ?_⟩
          dsimp only
          refine ⟨_, _, D2, vs ++ acc, rfl, fresh_back (x01.trans (xg.trans x4)) hD2, (xg.trans x4).trans (Ex.new hD2), upd_same, ?_⟩
          rw [duesTo_succ hb hd, List.map_append]
          have ee : ((enD d).map (evC ((i : Int) + 1))).map evD = (chsD d).map fun c => evD (evC ((i : Int) + 1) (chD c)) := by
            unfold enD
            rw [List.map_map, List.map_map]
            rfl
          rw [ee]
          exact dps_same (Ex.new hD2) _ _ (dps_app dV4 dA)
      · have hb : ¬ st ≤ i := of_decide_eq_false hb
        refine ⟨_, _, Dl, vs, rfl, nDl, (xH.trans xt).trans x3, x3 _ _ hDl2, ?_⟩
        have e1 : duesTo ds st (i + 1) = duesTo ds st i := by
          unfold duesTo
          rw [show i + 1 - st = 0 by omega, show i - st = 0 by omega]
        rw [e1]
        exact dps_same x3 _ _ dV2
    · obtain ⟨y5, y6, Dl, vs, rfl, nDl, xH, hDl, dV⟩ := h
      rw [gl, duesTo_end] at dV
      dsimp only
      have xH0 : Ex H H' := x01.trans xH
      refine s_seq ⟨Nat.zero_le _, fun Cl hCl => g_name ?_⟩
      dsimp only
      have xc : Ex H' (upd H' Cl (.lst [])) := Ex.new hCl
      have hC1 : (upd H' Cl (.lst [])) Cl = some (.lst []) := upd_same
      have nCl : H Cl = none := fresh_back xH0 hCl
      have DC : Dl ≠ Cl := fun z => by
        rw [← z, hDl] at hCl
        cases hCl
      generalize upd H' Cl (.lst []) = H3 at xc hC1
      refine s_seq (s_asg (ev_var rfl) fun H4 x4 => ?_)
      have x34 := xc.trans x4
      have hD4 := x34 _ _ hDl
      have dV4 := dps_same x34 _ _ dV
      have hC4 := x4 _ _ hC1
      have x04 := xH0.trans x34
      have dE4 := dps_same x04 _ _ dE
      have ul : us.length = es.length := by rw [dps_len dE, List.length_map]
      have exO : ∀ G, Off (fun a => a = Dl ∨ a = Cl) H4 G → Ex H G := fun G off a o h => off a o (fun z => by
        rcases z with rfl | rfl
        · rw [nDl] at h; cases h
        · rw [nCl] at h; cases h) (x04 a o h)
      refine s_seq ⟨.ref el, rfl, el, us, rfl, Evl.ex_l x04 hs, ?_⟩
      refine for_it (walk_enum (K := K) (a := el) (xs := us)) (fun i σ' G => ∃ y5 y9 y10 y11 y12 y13 s1 vs', σ' = [some (.ref pt), some (.ref l), some (.ref el), some (.int (st : Int)), some (.ref Dl), y5, y6, some (.ref Cl), some (.int ((s1 : WkS).at' : Int)), y9, y10, y11, y12, y13, none] ∧ Off (fun a => a = Dl ∨ a = Cl) H4 G ∧ runW rs ds st ⟨st, 0, []⟩ (es.take i) = some s1 ∧ G Dl = some (.lst vs') ∧ DpAll K G vs' (((dues ds st).drop s1.g).map evD) ∧ G Cl = some (.lst (s1.cop.map V.int))) ⟨y5, none, none, none, none, none, ⟨st, 0, []⟩, vs, rfl, fun a o _ h => h, rfl, hD4, dV4, hC4⟩ (fun i σ' G _ ⟨_, _, _, _, _, _, _, _, _, off, _⟩ => Evl.ex_l (exO G off) hs) (fun i v σ' G G1 hi h y => ?_) (fun σ' G h => ?_)
      · obtain ⟨z5, y9, y10, y11, y12, y13, s1, vs', rfl, off, run, hDg, dVg, hCg⟩ := h
        obtain ⟨t, v0, xe, rfl, ht, rfl, e1, e2⟩ := y
        cases e1
        obtain ⟨d, hd', hxd⟩ := dps_at dE e2
        rw [List.getElem?_map] at hd'
        obtain ⟨ev, he, rfl⟩ := Option.map_eq_some_iff.mp hd'
        obtain ⟨mk, hx, hsw⟩ := ge ev (List.mem_of_getElem? he)
        have xt : Ex G (upd G t (.tup [.int (i : Int), xe])) := Ex.new ht
        have ht' : (upd G t (.tup [.int (i : Int), xe])) t = some (.tup [.int (i : Int), xe]) := upd_same
        generalize upd G t (.tup [.int (i : Int), xe]) = G2 at xt ht'
        have off2 : Off (fun a => a = Dl ∨ a = Cl) H4 G2 := fun a o n h => xt a o (off a o n h)
        have xG2 := exO G2 off2
        refine ⟨t, _, rfl, st_of ht', rfl, _, _, rfl, _, _, rfl, rfl, ?_⟩
        dsimp only
        obtain ⟨ea, rfl, hsE⟩ := ev_tuple4 (dp_same xG2 _ _ hxd)
        obtain ⟨r1, r2, r3, r4⟩ := run_at run
        have r2 := r2 sl
        dsimp only at r1
        obtain ⟨pl, wd, kk, x⟩ := ev
        dsimp only at mk hx hsw hsE
        have hDg2 := xt _ _ hDg
        have dVg2 := dps_same xt _ _ dVg
        have hCg2 := xt _ _ hCg
        refine s_seq ⟨.ref ea, rfl, ea, _, rfl, hsE, rfl, _, _, rfl, _, _, rfl, _, _, rfl, _, _, rfl, rfl, ?_⟩
        dsimp only
        have bad : acc rs ds st s1 (pl, wd, kk, x) = none → ∀ G', Ex H G' → Q (.int (i : Int)) G' := fun ha G' xg => by
          have e := wrong_here run he ha
          rw [e] at q
          exact q G' xg
        refine s_seq (s_if (et_test (ev_op (ev_var rfl) (ev_var rfl) rv_I0)) (fun e G3 g3 => ?_) fun e G3 g3 => s_next ?_)
        · have e := of_decide_eq_true e
          exact ⟨_, rfl, bad (acc_out fun z => by have := z.1; dsimp only at this; omega) G3 (xG2.trans g3)⟩
        have e := of_decide_eq_false e
        have c1 : (s1.at' : Int) ≤ pl := by omega
        obtain ⟨n, rfl⟩ : ∃ n : Nat, pl = (n : Int) := ⟨pl.toNat, by omega⟩
        have off3 : Off (fun a => a = Dl ∨ a = Cl) H4 G3 := fun a o n h => g3 a o (off2 a o n h)
        have x3 := xG2.trans g3
        have hl3 := hl.same x3
        have hDg3 := g3 _ _ hDg2
        have dVg3 := dps_same g3 _ _ dVg2
        have hCg3 := g3 _ _ hCg2
        dsimp only
        refine seq_mid (fun σ' G' => ∃ s2 vs2, σ' = [some (.ref pt), some (.ref l), some (.ref el), some (.int (st : Int)), some (.ref Dl), some (.int (i : Int)), y6, some (.ref Cl), some (.int (s1.at' : Int)), some (.ref ea), some (.int (n : Int)), some (.str wd), some (.int kk), some (opV x), none] ∧ Off (fun a => a = Dl ∨ a = Cl) H4 G' ∧ acc rs ds st s1 ((n : Int), wd, kk, x) = some s2 ∧ s2.at' = n ∧ G' Dl = some (.lst vs2) ∧ DpAll K G' vs2 (((dues ds st).drop s2.g).map evD) ∧ G' Cl = some (.lst (s2.cop.map V.int))) (fun go => ?_) (fun σ' G' hR => ?_)
        · refine s_seq (s_if (b := decide (wd = "copy")) (et_is (et_test (ev_op (ev_var rfl) ev_c (rv_eq rfl))) (by by_cases z : wd = "copy" <;> simp [z])) (fun hw G4 g4 => ?_) fun hw G4 g4 => ?_)
          · have hw := of_decide_eq_true hw
            obtain ⟨us0, hls, hlA⟩ := hl.ex
            have ulen := dps_len hlA
            have x4 := x3.trans g4
            refine s_seq (if_or (et_test (ev_op (ev_var rfl) (ev_len (ev_var rfl) (Evl.ex_l x4 hls)) rv_I0)) (fun e5 G5 g5 => ?_) fun e5 G5 g5 => ?_)
            · have e5 := of_decide_eq_true e5
              exact ⟨_, rfl, bad (acc_out fun z => by have := z.2; dsimp only at this; omega) G5 (x4.trans g5)⟩
            have e5 := of_decide_eq_false e5
            have c2 : (n : Int) ≤ (ds.length : Int) := by omega
            have cc : ((s1.at' : Int) ≤ ((n : Int), wd, kk, x).1 ∧ ((n : Int), wd, kk, x).1 ≤ (ds.length : Int)) := ⟨c1, c2⟩
            have x5 := x4.trans g5
            have mvT : ∀ b : Bool, (b = true ↔ mvd ds st n kk) → EvT (tTest (tDIn (tVar 12) (tCall (spMoved K) [] E0 (tCons (tVar 1) (tCons (tVar 3) (tCons (tVar 10) tNil)))))) [some (.ref pt), some (.ref l), some (.ref el), some (.int (st : Int)), some (.ref Dl), some (.int (i : Int)), y6, some (.ref Cl), some (.int (s1.at' : Int)), some (.ref ea), some (.int (n : Int)), some (.str wd), some (.int kk), some (opV x), none] G5 b := fun b hb G' eG Q' q' => ⟨.int kk, rfl, .ref l, rfl, .int (st : Int), rfl, .int (n : Int), rfl, l, ks, ds, st, n, rfl, hl.same (x5.trans eG), h64, by omega, by omega, fun D kvs G6 nD xg hD mi => ⟨D, _, rfl, DGet.k (k := .inl kk) hD, _, rfl, by
                have eb : (valV kvs (.inl kk)).isSome = b := by
                  rw [Bool.eq_iff_iff, mi.has kk, hb]
                  exact Iff.rfl
                rw [eb]
                exact q' G6 xg⟩⟩
            by_cases mv : mvd ds st n kk
            · refine if_or (mvT true ⟨fun _ => mv, fun _ => rfl⟩) (fun _ G6 g6 => ?_) fun e => by cases e
              exact ⟨_, rfl, bad (acc_copy cc hw (.inl mv)) G6 (x5.trans g6)⟩
            refine if_or (mvT false ⟨fun z => (by cases z), fun z => absurd z mv⟩) (fun e => by cases e) fun _ G6 g6 => ?_
            have x6 := x5.trans g6
            have hCg6 := g6 _ _ (g5 _ _ (g4 _ _ hCg3))
            refine s_if (b := decide (kk ∈ s1.cop)) (et_test (ev_op (ev_var rfl) (ev_var rfl) fun G' eG Q' q' => ⟨Cl, s1.cop.map V.int, rfl, .inl (sq_of (eG _ _ hCg6)), rfl, flat_intsL _, by
              show Q' (.bl (inV (.int kk) (s1.cop.map V.int))) G'
              rw [inV_ints]
              exact q' G' (Ex.refl G')⟩)) (fun e7 G7 g7 => ?_) fun e7 G7 g7 => s_next ?_
            · exact ⟨_, rfl, bad (acc_copy cc hw (.inr (.inl (of_decide_eq_true e7)))) G7 (x6.trans g7)⟩
            have e7 := of_decide_eq_false e7
            have x7 := x6.trans g7
            dsimp only
            refine s_seq (s_if (b := !decide (worthsAt rs ds n kk = x ∧ x.isSome = true)) (fun G' eG Q' q' => ⟨.int kk, rfl, opV x, rfl, sz_of (by simp), fun t2 ht2 => ?_⟩) (fun e8 G8 g8 => ?_) fun e8 G8 g8 => ?_)
            · have xt2 : Ex G' (upd G' t2 (.tup [.int kk, opV x])) := Ex.new ht2
              have ht2' : (upd G' t2 (.tup [.int kk, opV x])) t2 = some (.tup [.int kk, opV x]) := upd_same
              generalize upd G' t2 (.tup [.int kk, opV x]) = G9 at xt2 ht2'
              refine ⟨.ref pt, rfl, .ref l, rfl, .int (n : Int), rfl, pt, l, rs, ks, ds, n, rfl, hpt.same (x7.trans (eG.trans xt2)), hrs, by omega, hl.same (x7.trans (eG.trans xt2)), by omega, by omega, fun p js G8 np xg kf mj tp2 => ⟨.tuple [.int kk, opD x], (rowsOf (worthsAt rs ds n) js).map Tc.pairD, .tup (st_of (xg _ _ ht2')) (.cons (.int kk) (.cons (dp_op x) .nil)), tp2.dp, sd_sh (n := 1) ?_ (by decide), sd_sh (sd_rows _) (by decide), _, congrArg V.bl (congrArg not (any_row kf kk x)), q' G8 (xt2.trans xg)⟩⟩
              refine List.all_eq_true.mpr fun d md => ?_
              rcases List.mem_cons.mp md with rfl | md
              · rfl
              · rw [List.mem_singleton.mp md]
                exact sd_op x
            · have nb : ¬ (worthsAt rs ds n kk = x ∧ x.isSome = true) := fun z => by
                rw [decide_eq_true z] at e8
                cases e8
              refine ⟨_, rfl, bad (acc_copy cc hw ?_) G8 (x7.trans g8)⟩
              by_cases hv : worthsAt rs ds n kk = x
              · refine .inr (.inr (.inl ?_))
                cases x with
                | none => rfl
                | some z => exact absurd ⟨hv, rfl⟩ nb
              · exact .inr (.inr (.inr hv))
            · have yb : worthsAt rs ds n kk = x ∧ x.isSome = true := by
                by_cases z : worthsAt rs ds n kk = x ∧ x.isSome = true
                · exact z
                · rw [decide_eq_false z] at e8
                  cases e8
              have g48 := (((g4.trans g5).trans g6).trans g7).trans g8
              have hCg8 := g48 _ _ hCg3
              have cl8 : s1.cop.length ≤ 5000 := by
                have := List.length_take_le i es
                have e0 : (⟨st, 0, []⟩ : WkS).cop.length = 0 := rfl
                omega
              refine s_next ⟨.ref Cl, rfl, .inl ⟨rfl, _, sq_of hCg8⟩, .int kk, rfl, Cl, s1.cop.map V.int, .int kk, rfl, rfl, hCg8, sz_lt (by rw [List.length_map]; omega), go _ _ ⟨⟨n, s1.g, s1.cop ++ [kk]⟩, vs', rfl, fun a o nx h => ?_, ?_, rfl, ?_, ?_, ?_⟩⟩
              · rw [upd_ne fun z => nx (.inr z)]
                exact g48 a o (off3 a o nx h)
              · refine acc_copied cc hw fun z => ?_
                rcases z with z | z | z | z
                · exact mv z
                · exact e7 z
                · rw [show x = none from z] at yb
                  cases yb.2
                · exact z yb.1
              · rw [upd_ne DC]
                exact g48 _ _ hDg3
              · refine dps_each (fun d md v => dp_nl hCg8 (Bar.refl Cl _).put 1 d v ?_) (dps_same g48 _ _ dVg3)
                obtain ⟨e', _, rfl⟩ := List.mem_map.mp md
                exact nl_ev _
              · rw [upd_same, List.map_append]
                rfl
          · have hw := of_decide_eq_false hw
            have x4 := x3.trans g4
            have hDg4 := g4 _ _ hDg3
            have dVg4 := dps_same g4 _ _ dVg3
            have hCg4 := g4 _ _ hCg3
            have vl := dps_len dVg4
            rw [List.length_map, List.length_drop] at vl
            refine if_or (et_test (ev_opL (ev_var rfl) (el_lst ea_nil (by simp)) fun p5 G5 hp5 e5 G6 e6 Q' q' => ⟨Dl, p5, vs', rfl, rfl, sq_of (e6 _ _ (e5 _ _ hDg4)), sq_of (e6 _ _ hp5), q' G6 (Ex.refl G6)⟩)) (fun e5 G5 g5 => ?_) fun e5 G5 g5 => ?_
            · refine ⟨_, rfl, bad (acc_ndue hw fun z => ?_) G5 (x4.trans g5)⟩
              have := (List.getElem?_eq_some_iff.mp z).1
              rw [List.isEmpty_iff.mp e5] at vl
              simp at vl
              omega
            · have hDg5 := g5 _ _ hDg4
              have dVg5 := dps_same g5 _ _ dVg4
              have hCg5 := g5 _ _ hCg4
              have x5 := x4.trans g5
              cases vs' with
              | nil => cases e5
              | cons y0 vr =>
                have hg : s1.g < (dues ds st).length := by
                  simp at vl
                  omega
                rw [List.drop_eq_getElem_cons hg, List.map_cons] at dVg5
                obtain ⟨dy, dr⟩ : Dp K G5 y0 (evD (dues ds st)[s1.g]) ∧ DpAll K G5 vr (((dues ds st).drop (s1.g + 1)).map evD) := by
                  cases dVg5 with
                  | cons a b => exact ⟨a, b⟩
                have bD : Bar Dl G5 (upd G5 Dl (.lst vr)) := (Bar.refl Dl _).put
                have nlr : ∀ d ∈ ((dues ds st).drop (s1.g + 1)).map evD, nl 1 d = true := fun d md => by
                  obtain ⟨e', _, rfl⟩ := List.mem_map.mp md
                  exact nl_ev _
                refine ⟨.ref Dl, rfl, .inl ⟨rfl, _, sq_of hDg5⟩, Dl, y0 :: vr, 0, 0, y0, rfl, rfl, hDg5, by decide, by decide, idx_nat (j := 0) (by simp), rfl, ?_⟩
                show tTest (tOp (rNeD K) (tC y0) (tVar 9)) _ (upd G5 Dl (.lst vr)) _
                have hDn : (upd G5 Dl (.lst vr)) Dl = some (.lst vr) := upd_same
                have hsE6 : Dp K (upd G5 Dl (.lst vr)) (.ref ea) (evD ((n : Int), wd, kk, x)) := dp_nl hDg5 bD 1 _ _ (nl_ev _) (.tup (Evl.ex_t ((g3.trans g4).trans g5) hsE) (.cons (.int _) (.cons (.str _) (.cons (.int _) (.cons (dp_op _) .nil)))))
                have dy6 := dp_nl hDg5 bD 1 _ _ (nl_ev _) dy
                have dr6 := dps_each (fun d md v => dp_nl hDg5 bD 1 d v (nlr d md)) dr
                have hC6 := bD _ _ (Ne.symm DC) hCg5
                have off6 : Off (fun a => a = Dl ∨ a = Cl) H4 (upd G5 Dl (.lst vr)) := fun a o nx h => bD a o (fun z => nx (.inl z)) (g5 a o (g4 a o (off3 a o nx h)))
                generalize upd G5 Dl (.lst vr) = G6 at hDn hsE6 dy6 dr6 hC6 off6 ⊢
                refine ⟨.ref ea, rfl, _, _, dy6, hsE6, sd_sh (n := 1) (sd_ev (dues_ok (ks := []) (List.getElem_mem hg)).1) (by decide), sd_sh (n := 1) (sd_ev hsw) (by decide), _, rfl, ite2 (fun e6 => ?_) (fun e6 => ?_)⟩
                · rw [eqv_ev] at e6
                  refine ⟨_, rfl, bad (acc_ndue hw fun z => ?_) G6 (exO G6 off6)⟩
                  rw [List.getElem?_eq_getElem hg] at z
                  rw [decide_eq_true (Option.some.inj z)] at e6
                  cases e6
                · rw [eqv_ev] at e6
                  have ee : (dues ds st)[s1.g] = ((n : Int), wd, kk, x) := by
                    by_cases z : (dues ds st)[s1.g] = ((n : Int), wd, kk, x)
                    · exact z
                    · rw [decide_eq_false z] at e6
                      exact absurd rfl e6
                  have me := duesF_at _ _ _ (ee ▸ List.getElem_mem hg : ((n : Int), wd, kk, x) ∈ dues ds st)
                  have c2 : (n : Int) ≤ (ds.length : Int) := by
                    have h2 := me.2.1
                    rw [List.length_drop] at h2
                    dsimp only at h2
                    omega
                  refine go _ _ ⟨⟨n, s1.g + 1, s1.cop⟩, vr, rfl, off6, acc_due ⟨c1, c2⟩ hw (by rw [List.getElem?_eq_getElem hg, ee]), rfl, hDn, dr6, hC6⟩
        · obtain ⟨s2, vs2, rfl, offR, ac, en, hDR, dVR, hCR⟩ := hR
          subst en
          refine s_asg (ev_var rfl) fun G5 g5 => ⟨_, _, _, _, _, _, s2, vs2, rfl, fun a o nx h => g5 a o (offR a o nx h), (run_snoc run he).trans ac, g5 _ _ hDR, dps_same g5 _ _ dVR, g5 _ _ hCR⟩
      · obtain ⟨z5, y9, y10, y11, y12, y13, s1, vs', rfl, off, run, hDg, dVg, hCg⟩ := h
        rw [ul, List.take_length] at run
        dsimp only
        have e := wrong_run es _ _ 0 run
        rw [e] at q
        exact q G (exO G off)
end
end K29
namespace K29
open PySem L2 PyProof.Rows Tc Evl
/-- what is there was put, or was there at first -/
theorem appl_from : ∀ (cs : List (Int × Option Int)) (f : Int → Option Int) (k z : Int), appl f cs k = some z → f k = some z ∨ ∃ c ∈ cs, c.2 = some z
  | [], _, _, _, h => .inl h
  | c :: cs, f, k, z, h => by
    rcases appl_from cs (fset f c.1 c.2) k z h with e | ⟨c', m, e⟩
    · unfold fset at e
      split at e
      · exact .inr ⟨c, List.mem_cons_self, e⟩
      · exact .inl e
    · exact .inr ⟨c', List.mem_cons_of_mem _ m, e⟩
theorem worth_bd {rs : List (Int × Int)} {ks : List Int} {ds : List PyData} (hw : ∀ r ∈ rs, 0 ≤ r.2 ∧ r.2 < 1000) (hg : ∀ d ∈ ds, goodEn ks d = true) {n : Nat} {k z : Int} (h : worthsAt rs ds n k = some z) : 0 ≤ z ∧ z < 1000 := by
  unfold worthsAt at h
  rcases appl_from _ _ _ _ h with e | ⟨c, m, e⟩
  · unfold fRows at e
    rcases appl_from _ _ _ _ e with e | ⟨c, m, e⟩
    · cases e
    · obtain ⟨r, mr, rfl⟩ := List.mem_map.mp m
      have := hw r mr
      rw [← Option.some.inj e]
      exact this
  · unfold lgD at m
    obtain ⟨d, md, mc⟩ := List.mem_flatMap.mp m
    obtain ⟨x, mx, rfl⟩ := List.mem_map.mp mc
    have hd := hg d (List.mem_of_mem_take md)
    rcases en_kind hd with ⟨cs, rfl, hc⟩ | ⟨s, i, j, rfl, _⟩
    · rcases ch_kindW (hc x mx) with ⟨k', rfl, _⟩ | ⟨k', z', rfl, _, hz⟩
      · cases e
      · rw [← Option.some.inj e]
        exact hz
    · cases mx
abbrev sTe : Stmt := topS 34
theorem scTe : FnScope ["bag", "table", "log", "sta1", "found", "copied", "place", "change", "key", "worth"] ["bag", "table", "log", "sta1"] (defScope sTe) := ⟨rfl, rfl, rfl, by decide +kernel, rfl, by decide +kernel, by decide +kernel⟩
/-- the events so far, the keys copied so far -/
structure TeI (K : PySem.W.Frag) (b : Addr) (H : Hp) (Fl D : Addr) (ks : List Int) (rs : List (Int × Int)) (ds : List PyData) (st : Nat) (s : WkS) (H' : Hp) (us : List V) (es : List Evt) (kvs : List (Key × V)) : Prop where
  fr : Tc.Fr b H H'
  nF : H Fl = none
  nD : H D = none
  fb : Fl ≠ b
  db : D ≠ b
  fd : Fl ≠ D
  hF : H' Fl = some (.lst us)
  dE : DpAll K H' us (es.map evD)
  good : ∀ e ∈ es, goodEv ks e
  run : runW rs ds st ⟨st, 0, []⟩ es = some s
  hD : H' D = some (.dK kvs)
  mi : MI ks kvs (fun k => k ∈ s.cop)
  cn : s.cop.Nodup
  ck : ∀ k ∈ s.cop, k ∈ ks
  nl' : es.length = s.g + s.cop.length
section
variable {K : PySem.W.Frag} {b : Addr} {H H' H3 : Hp} {Fl D : Addr} {ks : List Int} {rs : List (Int × Int)} {ds : List PyData} {st : Nat} {s s2 : WkS} {us : List V} {es : List Evt} {kvs kvs3 : List (Key × V)} {v : V} {e : Evt}
theorem nl_evs (es : List Evt) : ∀ d ∈ es.map evD, nl 1 d = true := fun d md => by
  obtain ⟨e', _, rfl⟩ := List.mem_map.mp md
  exact nl_ev _
theorem TeI.keep (I : TeI K b H Fl D ks rs ds st s H' us es kvs) (f : Tc.Fr b H' H3) : TeI K b H Fl D ks rs ds st s H3 us es kvs := by
  obtain ⟨bs, hb⟩ := I.fr.bag.lst
  exact ⟨I.fr.trans f, I.nF, I.nD, I.fb, I.db, I.fd, f.at I.hF I.fb, dps_each (fun d md v => dp_nl hb f.bar 1 d v (nl_evs es d md)) I.dE, I.good, I.run, f.at I.hD I.db, I.mi, I.cn, I.ck, I.nl'⟩
theorem TeI.to (I : TeI K b H Fl D ks rs ds st s H' us es kvs) (off : ∀ a o, a ≠ Fl → a ≠ D → H' a = some o → H3 a = some o) (hF3 : H3 Fl = some (.lst (us ++ [v]))) (hD3 : H3 D = some (.dK kvs3)) (dv : Dp K H3 v (evD e)) (ge : goodEv ks e) (ha : acc rs ds st s e = some s2) (mi3 : MI ks kvs3 (fun k => k ∈ s2.cop)) (cn : s2.cop.Nodup) (ck : ∀ k ∈ s2.cop, k ∈ ks) (hn : s2.g + s2.cop.length = s.g + s.cop.length + 1) : TeI K b H Fl D ks rs ds st s2 H3 (us ++ [v]) (es ++ [e]) kvs3 := by
  have kt : Kt H' H3 := Kt.but (fun a => a = Fl ∨ a = D) (fun a z => by
    rcases z with rfl | rfl
    · exact ⟨_, I.hF, fun xs y => (by cases y), fun o xs y => by cases y⟩
    · exact ⟨_, I.hD, fun xs y => (by cases y), fun o xs y => by cases y⟩) fun a o n h => off a o (fun z => n (.inl z)) (fun z => n (.inr z)) h
  refine ⟨⟨?_, fun a o h => ?_⟩, I.nF, I.nD, I.fb, I.db, I.fd, hF3, ?_, fun x mx => ?_, ?_, hD3, mi3, cn, ck, ?_⟩
  · obtain ⟨x, y, hb, r⟩ := I.fr.bag
    exact ⟨x, y, off _ _ (Ne.symm I.fb) (Ne.symm I.db) hb, r⟩
  · have ab : a ≠ b := fun z => by
      rw [z, hid_self] at h
      cases h
    have h1 := hid_same b H a o h
    exact hid_at (off a o (fun z => by rw [z, I.nF] at h1; cases h1) (fun z => by rw [z, I.nD] at h1; cases h1) (I.fr.at h1 ab)) ab
  · rw [List.map_append]
    exact dps_app (kt.dps (n := 1) (nl_evs es) I.dE) (.cons dv .nil)
  · rcases List.mem_append.mp mx with mx | mx
    · exact I.good x mx
    · rw [List.mem_singleton.mp mx]
      exact ge
  · rw [runW_app, I.run]
    show runW rs ds st s [e] = _
    rw [runW, ha]
    rfl
  · rw [List.length_append, I.nl', hn]
    rfl
end
def spTe (K : PySem.W.Frag) : Sp := fun vs H Q _ => ∃ (b pt l : Addr) (rs : List (Int × Int)) (ks : List Int) (ds : List PyData) (st : Nat), vs = [.ref b, .ref pt, .ref l, .int (st : Int)] ∧ Bag H b ∧ l ≠ b ∧ TP K H pt rs ∧ (∀ r ∈ rs, r.1 ∈ ks) ∧ (∀ r ∈ rs, 0 ≤ r.2 ∧ r.2 < 1000) ∧ ks.length < 64 ∧ LogAt K H l ks ds ∧ ds.length ≤ 100 ∧ (∀ d ∈ ds, (chsD d).length ≤ 10) ∧ st ≤ ds.length ∧
  ∀ Fl us es s H', H Fl = none → Fl ≠ b → Tc.Fr b H H' → H' Fl = some (.lst us) → DpAll K H' us (es.map evD) → (∀ e ∈ es, goodEv ks e) → runW rs ds st ⟨st, 0, []⟩ es = some s → es.length ≤ 1100 → Q (.ref Fl) H'
theorem dues_few {ds : List PyData} (dl : ds.length ≤ 100) (cl : ∀ d ∈ ds, (chsD d).length ≤ 10) (st p : Nat) : (duesTo ds st p).length ≤ 1000 := by
  unfold duesTo
  have := duesF_len ((ds.drop st).take (p - st)) st fun d' m => cl d' (List.mem_of_mem_drop (List.mem_of_mem_take m))
  rw [List.length_take, List.length_drop] at this
  omega
section
variable {P : Program} {w : World} {K : PySem.W.Frag} {mg : Str → Option Value} {base : Heap}
set_option maxHeartbeats 2000000 in
theorem ok_te {f : Addr} {fd : FuncData} {kT kGr kMv kAt k : Nat} (F : Fun K "_law_true_events" "_law_true_events" sTe f fd) (N : Names mg) (dT : Own P w K mg base "_law_take" ["bag", "many"] kT spTake) (hT : kT ≤ k) (dGr : Own P w K mg base "_law_groups" ["log"] kGr (spGroups K)) (hGr : kGr ≤ k) (dMv : Own P w K mg base "_law_moved" ["log", "low", "high"] kMv (spMoved K)) (hMv : kMv ≤ k) (dAt : Own P w K mg base "_law_at" ["table", "log", "place"] kAt (spAt K)) (hAt : kAt ≤ k) : FnOk P w K mg base CX0 (k + 1) f fd ["bag", "table", "log", "sta1"] (spTe K) := by
  refine F.ok scTe (fun vs H Q E h => ?_) (fun cdv A outer s H vs Q E hr h => ?_)
  · obtain ⟨b, pt, l, rs, ks, ds, st, rfl, _⟩ := h
    rfl
  · obtain ⟨b, pt, l, rs, ks, ds, st, rfl, hB, lb, hpt, hrs, hws, h64, hl, dl, cl, sl, q⟩ := h
    refine ⟨_, (pss_cons (ps_set (i := 4) scTe.nd rfl (.inl rfl) (pe_lst pa_nil))
      (pss_cons (ps_set (i := 5) scTe.nd rfl (.inl rfl) pe_dnewK)
      (pss_cons (ps_for PassesOwn.never rfl (pi_range2 rfl N.range (pa_cons (pv 3) (pa_cons (pe_op op_add (pe_callB call_len_seq (by rfl) N.len PySem.boot_len (pa_cons (pv 2) pa_nil)) pe_int) pa_nil))) (pg_name (i := 6) scTe.nd rfl (.inl rfl)) (pss_cons (ps_if (pt_cmpR op_gt (pv 6) (pv 3) (nomark _)) (pss_one (ps_for PassesOwn.never rfl (pi_tup (pe_ix ix_list (pe_own dGr hr hGr (by rfl) (pa_cons (pv 2) pa_nil)) (pe_op op_sub (pv 6) pe_int) (fun _ _ => rfl))) (pg_name (i := 7) scTe.nd rfl (.inl rfl)) (pss_one (ps_expr (pe_bm PySem.F.plainAttrs_list PySem.F.slot_list_append PySem.F.type_list_append mt_append (pv 4) (pa_cons (pe_op op_catA (pe_op op_catA (pe_tup (pa_cons (pv 6) pa_nil)) (pe_slice sl_tupA (pv 7) po_none (po_some pe_int))) (pe_tup (pa_cons (pe_ix ix_tup (pe_op op_catA (pv 7) (pe_tup (pa_cons pe_non pa_nil))) pe_int (fun _ _ => rfl)) pa_nil))) pa_nil)))))) pss_nil)
      (pss_one (ps_if (pt_cmpR op_eq (pe_own dT hr hT (by rfl) (pa_cons (pv 0) (pa_cons pe_int pa_nil))) pe_int (nomark _)) (pss_one (ps_for PassesOwn.never rfl (pi_tup (pe_own dAt hr hAt (by rfl) (pa_cons (pv 1) (pa_cons (pv 2) (pa_cons (pv 6) pa_nil))))) (pg_tup rfl (pgs_cons (pg_name (i := 8) scTe.nd rfl (.inl rfl)) (pgs_cons (pg_name (i := 9) scTe.nd rfl (.inl rfl)) pgs_nil))) (pss_one (ps_if (PW.pt (pw_and (pt_cmp (pc_dnotin (hu_of hr) (pv 8) (pv 5))) (pw_and (pt_cmp (pc_dnotin (hu_of hr) (pv 8) (pe_own dMv hr hMv (by rfl) (pa_cons (pv 2) (pa_cons (pv 3) (pa_cons (pv 6) pa_nil)))))) (pw_and1 (pt_cmpR op_eq (pe_own dT hr hT (by rfl) (pa_cons (pv 0) (pa_cons pe_int pa_nil))) pe_int (nomark _)))))) (pss_cons (ps_dput (hu_of hr) (pv 5) (pv 8) pe_bl rfl)
      (pss_one (ps_expr (pe_bm PySem.F.plainAttrs_list PySem.F.slot_list_append PySem.F.type_list_append mt_append (pv 4) (pa_cons (pe_tup (pa_cons (pv 6) (pa_cons pe_str (pa_cons (pv 8) (pa_cons (pv 9) pa_nil))))) pa_nil))))) pss_nil)))) pss_nil))))
      (pss_one (ps_ret (pv 4)))))), ?_⟩
    obtain ⟨us0, hls, hlA⟩ := hl.ex
    have ulen := dps_len hlA
    refine s_seq ⟨Nat.zero_le _, fun Fl hFl => g_name ?_⟩
    dsimp only
    have f1 : Tc.Fr b H (upd H Fl (.lst [])) := Fr.new hB hFl
    have hF1 : (upd H Fl (.lst [])) Fl = some (.lst []) := upd_same
    generalize upd H Fl (.lst []) = H1 at f1 hF1
    refine s_seq fun D hD => g_name ?_
    dsimp only
    have f2 : Tc.Fr b H1 (upd H1 D (.dK [])) := Fr.new f1.bag hD
    have hD2 : (upd H1 D (.dK [])) D = some (.dK []) := upd_same
    have fd : Fl ≠ D := fun z => by
      rw [z, hD] at hF1
      cases hF1
    have hF2 : (upd H1 D (.dK [])) Fl = some (.lst []) := by rw [upd_ne fd]; exact hF1
    generalize upd H1 D (.dK []) = H2 at f2 hD2 hF2
    have I0 : TeI K b H Fl D ks rs ds st ⟨st, 0, []⟩ H2 [] [] [] := ⟨f1.trans f2, hFl, f1.free hB hD, hB.ne hFl, f1.bag.ne hD, fd, hF2, .nil, fun e m => (by cases m), rfl, hD2, MI.nil.iff fun k => ⟨False.elim, fun m => by cases m⟩, List.nodup_nil, fun k m => (by cases m), rfl⟩
    obtain ⟨bs0, hb0⟩ := hB.lst
    have lg : ∀ G, Tc.Fr b H G → LogAt K G l ks ds := fun G f => hl.bar hb0 f.bar lb
    have tp : ∀ G, Tc.Fr b H G → TP K G pt rs := fun G f => hpt.bar hb0 f.bar
    have lsL : ∀ G, Tc.Fr b H G → ∃ us, SqL K G l us ∧ us.length = ds.length := fun G f => let ⟨us, a, c⟩ := (lg G f).ex; ⟨us, a, dps_len c⟩
    have hLen : Ev (tOp (rI0 fun i j => .int (i + j)) (tCB (rLenS K) (tCons (tVar 2) tNil)) (tC (.int 1))) [some (.ref b), some (.ref pt), some (.ref l), some (.int (st : Int)), some (.ref Fl), some (.ref D), none, none, none, none] H2 (.int ((ds.length : Int) + 1)) := by
      obtain ⟨us, a, e⟩ := lsL H2 I0.fr
      rw [← e]
      exact ev_op (ev_len (ev_var rfl) a) ev_c rv_add
    refine s_seq ⟨.int (st : Int), rfl, hLen H2 (Ex.refl H2) _ fun H3 x3 => ⟨st, (ds.length : Int) + 1, rfl, ⟨by omega, by omega, by omega, by omega⟩, ?_⟩⟩
    have I1 := I0.keep (Fr.ex I0.fr.bag x3)
    have hcnt : (((ds.length : Int) + 1) - (st : Int)).toNat = ds.length + 1 - st := by omega
    rw [hcnt]
    refine for_range (lo := (st : Int)) (n := ds.length + 1 - st) (fun j σ' G => ∃ y6 y7 y8 y9 s us es kvs, σ' = [some (.ref b), some (.ref pt), some (.ref l), some (.int (st : Int)), some (.ref Fl), some (.ref D), y6, y7, y8, y9] ∧ TeI K b H Fl D ks rs ds st s G us es kvs ∧ s.at' ≤ st + (j - 1) ∧ s.g = (duesTo ds st (st + (j - 1))).length) ⟨none, none, none, none, _, _, _, _, rfl, I1, Nat.le_refl _, by rw [Nat.zero_sub, Nat.add_zero, duesTo_start]; rfl⟩ (fun j σ' G hj h => ?_) (fun σ' G h => ?_)
    · obtain ⟨y6, y7, y8, y9, s, us, es, kvs, rfl, I, sa, sg⟩ := h
      obtain ⟨p, ep⟩ : ∃ p : Nat, p = st + j := ⟨_, rfl⟩
      refine g_name ?_
      rw [show (st : Int) + (j : Int) = (p : Int) by omega]
      dsimp only
      refine seq_mid (fun σ' G' => ∃ y7 s us es kvs, σ' = [some (.ref b), some (.ref pt), some (.ref l), some (.int (st : Int)), some (.ref Fl), some (.ref D), some (.int (p : Int)), y7, y8, y9] ∧ TeI K b H Fl D ks rs ds st s G' us es kvs ∧ s.at' ≤ p ∧ s.g = (duesTo ds st p).length) (fun go => s_seq ?_) (fun σ' G' hR => ?_)
      · refine s_if (et_test (ev_op (ev_var rfl) (ev_var rfl) rv_I0)) (fun e G1 g1 => ?_) fun e G1 g1 => ?_
        · have e := of_decide_eq_true e
          obtain ⟨j', rfl⟩ : ∃ j', j = j' + 1 := ⟨j - 1, by omega⟩
          rw [Nat.add_sub_cancel] at sa sg
          have I2 := I.keep (Fr.ex I.fr.bag g1)
          have pl : st + j' < ds.length := by omega
          refine ⟨.ref l, rfl, l, ks, ds, rfl, lg G1 I2.fr, by omega, fun pg gs G2 npg g2 hg dG => ?_⟩
          have I3 := I2.keep (Fr.ex I2.fr.bag g2)
          have gl := dps_len dG
          rw [List.length_map] at gl
          obtain ⟨d, hd⟩ : ∃ d, ds[st + j']? = some d := ⟨_, List.getElem?_eq_getElem pl⟩
          obtain ⟨xe, hxe, dxe⟩ := dps_at' dG (i := st + j') (d := grD d) (by rw [List.getElem?_map, hd]; rfl)
          refine ⟨.int (p : Int), rfl, (p : Int), 1, rfl, rfl, pg, gs, (p : Int) - 1, xe, rfl, rfl, sq_of hg, by rw [show (p : Int) - 1 = ((st + j' : Nat) : Int) by omega]; exact atI_nat hxe, ?_⟩
          unfold grD at dxe
          obtain ⟨qa, ws, rfl, hq, hc⟩ : ∃ qa ws, xe = .ref qa ∧ SqT K G2 qa ws ∧ DpAll K G2 ws (chsD d) := by
            cases dxe with
            | tup h1 h2 => exact ⟨_, _, rfl, h1, h2⟩
          have gd := hl.good d (List.mem_of_getElem? hd)
          have hgc : ∀ c ∈ chsD d, goodCh ks c = true := by
            rcases en_kind gd with ⟨cs, rfl, h⟩ | ⟨s, i, j, rfl, _⟩
            · exact h
            · exact fun c m => by cases m
          have wl := dps_len hc
          obtain ⟨r, er, er2⟩ := duesTo_pre (ds := ds) (st := st) (p := st + j') (by omega)
          obtain ⟨r', er3⟩ := er2 d hd
          refine ⟨qa, rfl, ⟨ws, hq⟩, ?_⟩
          refine for_tup (K := K) (a := qa) (xs := ws) (fun i σ2 G' => ∃ y7 s us es kvs, σ2 = [some (.ref b), some (.ref pt), some (.ref l), some (.int (st : Int)), some (.ref Fl), some (.ref D), some (.int (p : Int)), y7, y8, y9] ∧ TeI K b H Fl D ks rs ds st s G' us es kvs ∧ s.at' ≤ p ∧ s.g = (duesTo ds st (st + j')).length + i ∧ SqT K G' qa ws ∧ DpAll K G' ws (chsD d)) ⟨y7, s, us, es, kvs, rfl, I3, by omega, by rw [sg]; rfl, hq, hc⟩ (fun i σ2 G' _ ⟨_, _, _, _, _, _, _, _, _, h, _⟩ => h) (fun i y σ2 G' hy h => ?_) (fun σ2 G' h => ?_)
          · obtain ⟨z7, s, us, es, kvs, rfl, I4, sa4, sg4, hq4, hc4⟩ := h
            obtain ⟨cd, hcd, dy⟩ := dps_at hc4 hy
            have gcd := hgc cd (List.mem_of_getElem? hcd)
            refine g_name ?_
            dsimp only
            refine ⟨.ref Fl, rfl, .inl ⟨rfl, us, sq_of I4.hF⟩, ?_⟩
            refine ev_dueG (ks := ks) (ev_var rfl) rfl dy gcd _ fun t G5 g5 dt => ?_
            have I5 := I4.keep (Fr.ex I4.fr.bag g5)
            have ul := dps_len I5.dE
            rw [List.length_map, I5.nl'] at ul
            have c64 : s.cop.length ≤ ks.length := len_sub I5.cn I5.ck
            have gb := dues_few dl cl st (st + j')
            have il : i < (chsD d).length := (List.getElem?_eq_some_iff.mp hcd).1
            have dcl := cl d (List.mem_of_getElem? hd)
            refine ⟨Fl, us, .ref t, rfl, rfl, I5.hF, sz_lt (by omega), ?_⟩
            have off : ∀ a o, a ≠ Fl → a ≠ D → G5 a = some o → (upd G5 Fl (.lst (us ++ [.ref t]))) a = some o := fun a o n1 _ h => by rw [upd_ne n1]; exact h
            have bF : Bar Fl G5 (upd G5 Fl (.lst (us ++ [.ref t]))) := (Bar.refl Fl _).put
            have kt : Kt G5 (upd G5 Fl (.lst (us ++ [.ref t]))) := Kt.barL I5.hF bF
            have ev : (dues ds st)[s.g]? = some (evC (p : Int) (chD cd)) := by
              rw [er, er3, sg4, List.getElem?_append_right (by omega), Nat.add_sub_cancel_left, List.getElem?_append_left (by rw [List.length_map]; unfold enD; rw [List.length_map]; omega), List.getElem?_map]
              unfold enD
              rw [List.getElem?_map, hcd, show ((st + j' : Nat) : Int) + 1 = (p : Int) by omega]
              rfl
            have I6 := I5.to (e := evC (p : Int) (chD cd)) off upd_same (by rw [upd_ne (Ne.symm I5.fd)]; exact I5.hD) (kt.dp 1 _ _ (nl_ev _) dt) ⟨good_key gcd, fun z ez => ?_, ?_⟩ (acc_due ⟨by show (s.at' : Int) ≤ (p : Int); omega, by show (p : Int) ≤ _; omega⟩ (word_ne _) ev) I5.mi I5.cn I5.ck (by show s.g + 1 + s.cop.length = s.g + s.cop.length + 1; omega)
            · refine ⟨_, ⟨((evC (p : Int) (chD cd)).1).toNat, s.g + 1, s.cop⟩, _, _, _, rfl, I6, Nat.le_refl _, by show s.g + 1 = _; omega, kt.t (Evl.ex_t g5 hq4), kt.dps (n := 1) (fun d' m' => nl_ch (hgc d' m')) (dps_same g5 _ _ hc4)⟩
            · rcases ch_kindW gcd with ⟨k', rfl, _⟩ | ⟨k', z', rfl, _, hz⟩
              · cases ez
              · cases ez
                exact hz
            · show PyData.strOk (wordOf (chD cd).2) = true
              unfold wordOf
              split <;> decide +kernel
          · obtain ⟨z7, s, us, es, kvs, rfl, I4, sa4, sg4, _, _⟩ := h
            refine go _ _ ⟨_, s, us, es, kvs, rfl, I4, sa4, ?_⟩
            rw [sg4, ep, show st + (j' + 1) = st + j' + 1 from rfl, duesTo_succ (by omega) hd, List.length_append, List.length_map, wl]
            unfold enD
            rw [List.length_map]
        · have e := of_decide_eq_false e
          have j0 : j = 0 := by omega
          subst j0
          refine go _ _ ⟨_, s, us, es, kvs, rfl, I.keep (Fr.ex I.fr.bag g1), by omega, ?_⟩
          rw [sg, ep]
      · obtain ⟨z7, s, us, es, kvs, rfl, I2, sa2, sg2⟩ := hR
        try dsimp only
        refine take_of (b := b) (m := 3) I2.fr.bag (ea_cons (ev_var rfl) (ea_cons ev_c ea_nil)) (by decide) (by decide) fun r G1 g1 r0 r1 => ⟨rfl, _, rfl, ite2 (fun e => ?_) (fun e => ?_)⟩
        · have I3 := I2.keep g1
          refine ⟨.ref pt, rfl, .ref l, rfl, .int (p : Int), rfl, pt, l, rs, ks, ds, p, rfl, tp G1 I3.fr, hrs, by omega, lg G1 I3.fr, by omega, by omega, fun pr js G2 np g2 kf mj tp2 => ?_⟩
          have I4 := I3.keep (Fr.ex I3.fr.bag g2)
          obtain ⟨xs, hpx, hA⟩ := tp2
          have xl := dps_len hA
          rw [List.length_map] at xl
          have nlp : ∀ d ∈ (rowsOf (worthsAt rs ds p) js).map Tc.pairD, nl 1 d = true := fun d md => by
            obtain ⟨r, _, rfl⟩ := List.mem_map.mp md
            rfl
          refine ⟨pr, rfl, ⟨xs, hpx.st⟩, ?_⟩
          refine for_tup (K := K) (a := pr) (xs := xs) (fun i σ2 G' => ∃ y8 y9 s us es kvs, σ2 = [some (.ref b), some (.ref pt), some (.ref l), some (.int (st : Int)), some (.ref Fl), some (.ref D), some (.int (p : Int)), z7, y8, y9] ∧ TeI K b H Fl D ks rs ds st s G' us es kvs ∧ s.at' ≤ p ∧ s.g = (duesTo ds st p).length ∧ SqT K G' pr xs ∧ DpAll K G' xs ((rowsOf (worthsAt rs ds p) js).map Tc.pairD)) ⟨y8, y9, s, us, es, kvs, rfl, I4, sa2, sg2, hpx.st, hA⟩ (fun i σ2 G' _ ⟨_, _, _, _, _, _, _, _, _, _, h, _⟩ => h) (fun i y σ2 G' hy h => ?_) (fun σ2 G' h => ?_)
          · obtain ⟨z8, z9, s, us, es, kvs, rfl, I5, sa5, sg5, hq5, hA5⟩ := h
            obtain ⟨dr, hdr, dy⟩ := dps_at hA5 hy
            rw [List.getElem?_map] at hdr
            obtain ⟨rw', hrw, rfl⟩ := Option.map_eq_some_iff.mp hdr
            unfold rowsOf at hrw
            rw [List.getElem?_map] at hrw
            obtain ⟨kk, hkj, rfl⟩ := Option.map_eq_some_iff.mp hrw
            have mkj := List.mem_of_getElem? hkj
            obtain ⟨z, hz⟩ := Option.isSome_iff_exists.mp ((kf.2 kk).mp mkj)
            have mk := mj kk mkj
            obtain ⟨pa, u0, u1, rfl, ht, h0, h1⟩ := dpt2 dy
            cases h0
            cases h1
            rw [hz] at ht
            refine ⟨pa, _, rfl, ht, rfl, _, _, rfl, _, _, rfl, rfl, ?_⟩
            dsimp only
            have back : ∀ G6, Tc.Fr b G' G6 → ∃ y8 y9 s' us es kvs, [some (.ref b), some (.ref pt), some (.ref l), some (.int (st : Int)), some (.ref Fl), some (.ref D), some (.int (p : Int)), z7, some (.int kk), some (.int z)] = [some (.ref b), some (.ref pt), some (.ref l), some (.int (st : Int)), some (.ref Fl), some (.ref D), some (.int (p : Int)), z7, y8, y9] ∧ TeI K b H Fl D ks rs ds st s' G6 us es kvs ∧ s'.at' ≤ p ∧ s'.g = (duesTo ds st p).length ∧ SqT K G6 pr xs ∧ DpAll K G6 xs ((rowsOf (worthsAt rs ds p) js).map Tc.pairD) := fun G6 f6 => ⟨_, _, s, us, es, kvs, rfl, I5.keep f6, sa5, sg5, (Kt.fr I5.fr.bag f6).t hq5, (Kt.fr I5.fr.bag f6).dps (n := 1) nlp hA5⟩
            refine if_and (b1 := !decide (kk ∈ s.cop)) (fun G6 e6 Q' q' => ⟨.int kk, rfl, .ref D, rfl, D, _, rfl, DGet.k (k := .inl kk) (e6 _ _ I5.hD), _, rfl, by
              have eb : (valV kvs (.inl kk)).isSome = decide (kk ∈ s.cop) := by
                rw [Bool.eq_iff_iff, I5.mi.has kk, decide_eq_true_eq]
              rw [eb]
              exact q' G6 (Ex.refl G6)⟩) (fun e6 G6 g6 => ?_) (fun e6 G6 g6 => back G6 (Fr.ex I5.fr.bag g6))
            have nc : kk ∉ s.cop := fun z' => by
              rw [decide_eq_true z'] at e6
              cases e6
            have I6 := I5.keep (Fr.ex I5.fr.bag g6)
            have mvT : ∀ c : Bool, (c = true ↔ ¬ mvd ds st p kk) → EvT (tTest (tDNotIn (tVar 8) (tCall (spMoved K) [] E0 (tCons (tVar 2) (tCons (tVar 3) (tCons (tVar 6) tNil)))))) [some (.ref b), some (.ref pt), some (.ref l), some (.int (st : Int)), some (.ref Fl), some (.ref D), some (.int (p : Int)), z7, some (.int kk), some (.int z)] G6 c := fun c hc G' eG Q' q' => ⟨.int kk, rfl, .ref l, rfl, .int (st : Int), rfl, .int (p : Int), rfl, l, ks, ds, st, p, rfl, (lg G6 I6.fr).same eG, h64, by omega, by omega, fun Dm kvm G7 nD xg hDm mi => ⟨Dm, _, rfl, DGet.k (k := .inl kk) hDm, _, rfl, by
              have eb : (!(valV kvm (.inl kk)).isSome) = c := by
                rw [Bool.eq_iff_iff, hc, Bool.not_eq_true', ← Bool.not_eq_true, mi.has kk]
                exact Iff.rfl
              rw [eb]
              exact q' G7 xg⟩⟩
            by_cases mv : mvd ds st p kk
            · exact if_and (mvT false ⟨fun z => (by cases z), fun z => absurd mv z⟩) (fun e => by cases e) fun _ G7 g7 => back G7 (Fr.ex I5.fr.bag (g6.trans g7))
            refine if_and (mvT true ⟨fun _ => mv, fun _ => rfl⟩) (fun _ G7 g7 => ?_) (fun e => by cases e)
            have I7 := I6.keep (Fr.ex I6.fr.bag g7)
            refine take_of (b := b) (m := 3) I7.fr.bag (ea_cons (ev_var rfl) (ea_cons ev_c ea_nil)) (by decide) (by decide) fun r' G8 g8 r0' r1' => ⟨rfl, _, rfl, ite2 (fun e8 => ?_) (fun e8 => back G8 ((Fr.ex I5.fr.bag (g6.trans g7)).trans g8))⟩
            have I8 := I7.keep g8
            have kt8 := Kt.fr I5.fr.bag ((Fr.ex I5.fr.bag (g6.trans g7)).trans g8)
            have hq8 := kt8.t hq5
            have hA8 := kt8.dps (n := 1) nlp hA5
            have kl := I8.mi.len
            have ul := dps_len I8.dE
            rw [List.length_map, I8.nl'] at ul
            have c64 : s.cop.length ≤ ks.length := len_sub I8.cn I8.ck
            have gb := dues_few dl cl st p
            refine s_seq ⟨.ref D, rfl, .int kk, rfl, D, _, rfl, DPut.k (k := .inl kk) I8.hD (sz_lt (by omega)), ?_⟩
            have hF9 : (upd G8 D (.dK (putK kvs (.inl kk) (.bl true)))) Fl = some (.lst us) := by rw [upd_ne I8.fd]; exact I8.hF
            have off9 : ∀ a o, a ≠ D → G8 a = some o → (upd G8 D (.dK (putK kvs (.inl kk) (.bl true)))) a = some o := fun a o n h => by rw [upd_ne n]; exact h
            have hD9 : (upd G8 D (.dK (putK kvs (.inl kk) (.bl true)))) D = some (.dK (putK kvs (.inl kk) (.bl true))) := upd_same
            generalize upd G8 D (.dK (putK kvs (.inl kk) (.bl true))) = G9 at hF9 off9 hD9
            dsimp only
            refine ⟨.ref Fl, rfl, .inl ⟨rfl, us, sq_of hF9⟩, .int (p : Int), rfl, .int kk, rfl, .int z, rfl, sz_of (by simp), fun t ht' => ?_⟩
            have xt : Ex G9 (upd G9 t (.tup [.int (p : Int), .str "copy", .int kk, .int z])) := Ex.new ht'
            have tt : (upd G9 t (.tup [.int (p : Int), .str "copy", .int kk, .int z])) t = some (.tup [.int (p : Int), .str "copy", .int kk, .int z]) := upd_same
            generalize upd G9 t (.tup [.int (p : Int), .str "copy", .int kk, .int z]) = GA at xt tt
            have hFA := xt _ _ hF9
            refine ⟨Fl, us, .ref t, rfl, rfl, hFA, sz_lt (by omega), ?_⟩
            have bF : Bar Fl GA (upd GA Fl (.lst (us ++ [.ref t]))) := (Bar.refl Fl _).put
            have kt : Kt GA (upd GA Fl (.lst (us ++ [.ref t]))) := Kt.barL hFA bF
            have ktD : Kt G8 G9 := Kt.barD I8.hD fun a o n h => off9 a o n h
            have ktA := (ktD.trans (Kt.ex xt)).trans kt
            have dv : Dp K GA (.ref t) (evD ((p : Int), "copy", kk, some z)) := .tup (st_of tt) (.cons (.int _) (.cons (.str _) (.cons (.int _) (.cons (.int z) .nil))))
            have I9 := I8.to (e := ((p : Int), "copy", kk, some z)) (H3 := upd GA Fl (.lst (us ++ [.ref t]))) (v := .ref t) (kvs3 := putK kvs (.inl kk) (.bl true)) (s2 := ⟨((p : Int)).toNat, s.g, s.cop ++ [kk]⟩) (fun a o n1 n2 h => bF a o n1 (xt _ _ (off9 a o n2 h))) upd_same (bF _ _ (Ne.symm I8.fd) (xt _ _ hD9)) (kt.dp 1 _ _ (nl_ev _) dv) ⟨mk, fun z' e' => by cases e'; exact worth_bd hws hl.good hz, show PyData.strOk ("copy" : Str) = true by decide +kernel⟩ (acc_copied ⟨by show (s.at' : Int) ≤ (p : Int); omega, by show (p : Int) ≤ _; omega⟩ rfl fun y => ?_) ((I8.mi.put mk).iff fun j => ?_) (List.nodup_append.mpr ⟨I8.cn, (by simp), fun x hx y hy e => ?_⟩) (fun x hx => ?_) (by show s.g + (s.cop ++ [kk]).length = _; rw [List.length_append]; rfl)
            · exact ⟨_, _, _, _, _, _, rfl, I9, Nat.le_refl _, sg5, ktA.t hq8, ktA.dps (n := 1) nlp hA8⟩
            · rcases y with y | y | y | y
              · exact mv y
              · exact nc y
              · cases y
              · exact y hz
            · rw [List.mem_append, List.mem_singleton]
            · rw [List.mem_singleton.mp hy] at e
              exact nc (e ▸ hx)
            · rcases List.mem_append.mp hx with hx | hx
              · exact I8.ck x hx
              · rw [List.mem_singleton.mp hx]
                exact mk
          · obtain ⟨z8, z9, s, us, es, kvs, rfl, I5, sa5, sg5, _, _⟩ := h
            exact ⟨_, _, _, _, s, us, es, kvs, rfl, I5, by omega, by rw [sg5, ep]; rfl⟩
        · exact ⟨_, _, _, _, s, us, es, kvs, rfl, I2.keep g1, by omega, by rw [sg2, ep]; rfl⟩
    · obtain ⟨y6, y7, y8, y9, s, us, es, kvs, rfl, I, sa, sg⟩ := h
      have c64 : s.cop.length ≤ ks.length := len_sub I.cn I.ck
      have gb := dues_few dl cl st (st + (ds.length + 1 - st - 1))
      exact ⟨_, rfl, q Fl us es s G I.nF I.fb I.fr I.hF I.dE I.good I.run (by rw [I.nl']; omega)⟩
end
end K29
namespace K29
open PySem L2 PyProof.Rows Tc Evl
abbrev sOe : Stmt := topS 35
theorem scOe : FnScope ["bag", "events", "keys", "rows", "at", "way", "new", "event", "part"] ["bag", "events", "keys"] (defScope sOe) := ⟨rfl, rfl, rfl, by decide +kernel, rfl, by decide +kernel, by decide +kernel⟩
def spOe (K : PySem.W.Frag) : Sp := fun vs H Q _ => ∃ (b el lk : Addr) (ks : List Int) (us : List V) (es : List Evt), vs = [.ref b, .ref el, .ref lk] ∧ Bag H b ∧ H el = some (.lst us) ∧ DpAll K H us (es.map evD) ∧ (∀ e ∈ es, goodEv ks e) ∧ es.length ≤ 2000 ∧ KeysAt b H lk ks ∧
  ∀ (L : Addr) (us2 : List V) (es2 : List Evt) (H' : Hp), H L = none → L ≠ b → Tc.Fr b H H' → H' L = some (.lst us2) → DpAll K H' us2 (es2.map evD) → (∀ e ∈ es2, goodEv ks e) → es2.length ≤ es.length + 1 → Q (.ref L) H'
/-- the events in a list of one's own -/
structure OeI (K : PySem.W.Frag) (b : Addr) (H : Hp) (L : Addr) (ks : List Int) (H' : Hp) (us : List V) (es : List Evt) : Prop where
  fr : Tc.Fr b H H'
  nL : H L = none
  lb : L ≠ b
  hL : H' L = some (.lst us)
  dE : DpAll K H' us (es.map evD)
  good : ∀ e ∈ es, goodEv ks e
section
variable {K : PySem.W.Frag} {b : Addr} {H H' H3 : Hp} {L : Addr} {ks : List Int} {us us3 : List V} {es es3 : List Evt}
theorem OeI.keep (I : OeI K b H L ks H' us es) (f : Tc.Fr b H' H3) : OeI K b H L ks H3 us es := by
  obtain ⟨bs, hb⟩ := I.fr.bag.lst
  exact ⟨I.fr.trans f, I.nL, I.lb, f.at I.hL I.lb, dps_each (fun d md v => dp_nl hb f.bar 1 d v (nl_evs es d md)) I.dE, I.good⟩
theorem OeI.put (I : OeI K b H L ks H' us es) (dE : DpAll K H' us3 (es3.map evD)) (g : ∀ e ∈ es3, goodEv ks e) : OeI K b H L ks (upd H' L (.lst us3)) us3 es3 :=
  ⟨I.fr.mut I.nL I.lb, I.nL, I.lb, upd_same, (Kt.barL I.hL (Bar.refl L H').put).dps (n := 1) (nl_evs es3) dE, g⟩
theorem OeI.len (I : OeI K b H L ks H' us es) : us.length = es.length := by rw [dps_len I.dE, List.length_map]
end
theorem ins_data {K : PySem.W.Frag} {H : Hp} {us : List V} {es : List Evt} {v : V} {e : Evt} (h : DpAll K H us (es.map evD)) (hv : Dp K H v (evD e)) (i : Nat) : DpAll K H (us.take i ++ [v] ++ us.drop i) ((es.take i ++ [e] ++ es.drop i).map evD) := by
  rw [List.map_append, List.map_append, List.map_take, List.map_drop]
  exact dps_app (dps_app (dps_take i h) (.cons hv .nil)) (dps_drop i h)
theorem ins_good {ks : List Int} {es : List Evt} {e : Evt} (h : ∀ e ∈ es, goodEv ks e) (g : goodEv ks e) (i : Nat) : ∀ x ∈ es.take i ++ [e] ++ es.drop i, goodEv ks x := fun x mx => by
  rcases List.mem_append.mp mx with mx | mx
  · rcases List.mem_append.mp mx with mx | mx
    · exact h x (List.mem_of_mem_take mx)
    · rw [List.mem_singleton.mp mx]
      exact g
  · exact h x (List.mem_of_mem_drop mx)
theorem ins_len {α : Type} (l : List α) (x : α) (i : Nat) : (l.take i ++ [x] ++ l.drop i).length = l.length + 1 := by
  rw [List.length_append, List.length_append, List.length_take, List.length_drop]
  show min i l.length + 1 + (l.length - i) = _
  omega
section
variable {P : Program} {w : World} {K : PySem.W.Frag} {mg : Str → Option Value} {base : Heap}
set_option maxHeartbeats 2000000 in
theorem ok_oe {f : Addr} {fd : FuncData} {kT kOf k : Nat} (F : Fun K "_law_other_events" "_law_other_events" sOe f fd) (N : Names mg) (dT : Own P w K mg base "_law_take" ["bag", "many"] kT spTake) (hT : kT ≤ k) (dOf : Own P w K mg base "_law_of" ["bag", "some"] kOf spOf) (hOf : kOf ≤ k) : FnOk P w K mg base CX0 (k + 1) f fd ["bag", "events", "keys"] (spOe K) := by
  refine F.ok scOe (fun vs H Q E h => ?_) (fun cdv A outer s H vs Q E hr h => ?_)
  · obtain ⟨b, el, lk, ks, us, es, rfl, _⟩ := h
    rfl
  · obtain ⟨b, el, lk, ks, us, es, rfl, hB, hel, dE, ge, el', hk, q⟩ := h
    refine ⟨_, (pss_cons (ps_set (i := 3) scOe.nd rfl (.inl rfl) (pe_callTy call_list_of (by rfl) N.list boot_list (pa_cons (pv 1) pa_nil)))
      (pss_cons (ps_set (i := 4) scOe.nd rfl (.inl rfl) (pe_own dT hr hT (by rfl) (pa_cons (pv 0) (pa_cons (pe_op op_add (pe_callB call_len_seq (by rfl) N.len PySem.boot_len (pa_cons (pv 3) pa_nil)) pe_int) pa_nil))))
      (pss_cons (ps_set (i := 5) scOe.nd rfl (.inl rfl) (pe_own dT hr hT (by rfl) (pa_cons (pv 0) (pa_cons pe_int pa_nil))))
      (pss_cons (ps_set (i := 6) scOe.nd rfl (.inl rfl) (pe_tup (pa_cons (pe_own dT hr hT (by rfl) (pa_cons (pv 0) (pa_cons pe_int pa_nil))) (pa_cons (pe_ix ix_list (pe_lst (pa_cons pe_str (pa_cons pe_str (pa_cons pe_str pa_nil)))) (pe_own dT hr hT (by rfl) (pa_cons (pv 0) (pa_cons pe_int pa_nil))) (fun _ _ => rfl)) (pa_cons (pe_own dOf hr hOf (by rfl) (pa_cons (pv 0) (pa_cons (pv 2) pa_nil))) (pa_cons (pe_own dT hr hT (by rfl) (pa_cons (pv 0) (pa_cons pe_int pa_nil))) pa_nil))))))
      (pss_cons (ps_if (PW.pt (pw_or (pt_cmpR (op_eqE hr.units) (pv 3) (pe_lst pa_nil) (nomark _)) (pw_or1 (pt_cmpR op_eq (pv 5) pe_int (nomark _))))) (pss_cons (ps_expr (pe_bm PySem.F.plainAttrs_list PySem.F.slot_list_insert PySem.F.type_list_insert mt_insert (pv 3) (pa_cons (pv 4) (pa_cons (pv 6) pa_nil))))
      (pss_one (ps_ret (pv 3)))) pss_nil)
      (pss_cons (ps_set (i := 4) scOe.nd rfl (.inl rfl) (pe_op op_mod (pv 4) (pe_callB call_len_seq (by rfl) N.len PySem.boot_len (pa_cons (pv 3) pa_nil))))
      (pss_cons (ps_if (pt_cmpR op_eq (pv 5) pe_int (nomark _)) (pss_one (ps_expr (pe_bm PySem.F.plainAttrs_list PySem.F.slot_list_pop PySem.F.type_list_pop mt_popAt (pv 3) (pa_cons (pv 4) pa_nil)))) (pss_one (ps_if (pt_cmpR op_eq (pv 5) pe_int (nomark _)) (pss_one (ps_expr (pe_bm PySem.F.plainAttrs_list PySem.F.slot_list_insert PySem.F.type_list_insert mt_insert (pv 3) (pa_cons (pv 4) (pa_cons (pe_ix ix_list (pv 3) (pv 4) (fun _ _ => rfl)) pa_nil))))) (pss_one (ps_if (pt_cmpR op_eq (pv 5) pe_int (nomark _)) (pss_one (ps_expr (pe_bm PySem.F.plainAttrs_list PySem.F.slot_list_insert PySem.F.type_list_insert mt_insert (pv 3) (pa_cons (pe_own dT hr hT (by rfl) (pa_cons (pv 0) (pa_cons (pe_callB call_len_seq (by rfl) N.len PySem.boot_len (pa_cons (pv 3) pa_nil)) pa_nil))) (pa_cons (pe_bm PySem.F.plainAttrs_list PySem.F.slot_list_pop PySem.F.type_list_pop mt_popAt (pv 3) (pa_cons (pv 4) pa_nil)) pa_nil))))) (pss_cons (ps_set (i := 7) scOe.nd rfl (.inl rfl) (pe_callTy call_list_of (by rfl) N.list boot_list (pa_cons (pe_ix ix_list (pv 3) (pv 4) (fun _ _ => rfl)) pa_nil)))
      (pss_cons (ps_set (i := 8) scOe.nd rfl (.inl rfl) (pe_own dT hr hT (by rfl) (pa_cons (pv 0) (pa_cons pe_int pa_nil))))
      (pss_cons (ps_asg (pe_ix ix_tup (pv 6) (pv 8) (fun _ _ => rfl)) (pg_sub (pv 7) (pv 8) set_list))
      (pss_one (ps_asg (pe_callTy cr_tupP (by rfl) N.tuple boot_tuple (pa_cons (pv 7) pa_nil)) (pg_sub (pv 3) (pv 4) set_list)))))))))))
      (pss_one (ps_ret (pv 3)))))))))), ?_⟩
    refine s_seq ⟨.ref el, rfl, el, us, rfl, .inl (sq_of hel), fun L hL => g_name ?_⟩
    dsimp only
    have I1 : OeI K b H L ks (upd H L (.lst us)) us es := ⟨Fr.new hB hL, hL, hB.ne hL, upd_same, dps_same (Ex.new hL) _ _ dE, ge⟩
    generalize upd H L (.lst us) = H1 at I1
    have ul := I1.len
    refine s_seq (take_of (b := b) (m := (us.length : Int) + 1) I1.fr.bag (ea_cons (ev_var rfl) (ea_cons (ev_op (ev_len (ev_var rfl) (sq_of I1.hL)) ev_c rv_add) ea_nil)) (by omega) (by omega) fun r H2 f2 r0 r1 => g_name ?_)
    have I2 := I1.keep f2
    dsimp only
    refine s_seq (take_of (b := b) (m := 7) I2.fr.bag (ea_cons (ev_var rfl) (ea_cons ev_c ea_nil)) (by decide) (by decide) fun wy H3 f3 w0 w1 => g_name ?_)
    have I3 := I2.keep f3
    dsimp only
    refine s_seq (take_of (b := b) (m := 12) I3.fr.bag (ea_cons (ev_var rfl) (ea_cons ev_c ea_nil)) (by decide) (by decide) fun pl H4 f4 p0 p1 => ?_)
    have I4 := I3.keep f4
    refine item_new (K := K) (b := b) (xs := [.str "put", .str "drop", .str "copy"]) (el_lst (ea_cons ev_c (ea_cons ev_c (ea_cons ev_c ea_nil))) (by simp)) I4.fr.bag (fun H5 f5 Q q => take_of (m := 3) f5.bag (ea_cons (ev_var rfl) (ea_cons ev_c ea_nil)) (by decide) (by decide) q) fun v H5 f5 hv => ?_
    obtain ⟨wd, rfl, hwd⟩ : ∃ wd : Str, v = .str wd ∧ PyData.strOk wd = true := by
      simp only [List.mem_cons, List.not_mem_nil, or_false] at hv
      rcases hv with h | h | h
      · exact ⟨_, h, show PyData.strOk ("put" : Str) = true by decide +kernel⟩
      · exact ⟨_, h, show PyData.strOk ("drop" : Str) = true by decide +kernel⟩
      · exact ⟨_, h, show PyData.strOk ("copy" : Str) = true by decide +kernel⟩
    have I5 := I4.keep f5
    refine ⟨.ref b, rfl, .ref lk, rfl, b, lk, ks, rfl, I5.fr.bag, hk.fr I5.fr, fun kk H6 mk f6 => ?_⟩
    have I6 := I5.keep f6
    refine take_of (b := b) (m := 3) I6.fr.bag (ea_cons (ev_var rfl) (ea_cons ev_c ea_nil)) (by decide) (by decide) fun zz H7 f7 z0 z1 => ⟨sz_of (by simp), fun t ht => g_name ?_⟩
    have I7 := I6.keep f7
    have I8 := I7.keep (Fr.ex I7.fr.bag (Ex.new (o := .tup [.int pl, .str wd, .int kk, .int zz]) ht))
    have ht8 : (upd H7 t (.tup [.int pl, .str wd, .int kk, .int zz])) t = some (.tup [.int pl, .str wd, .int kk, .int zz]) := upd_same
    generalize upd H7 t (.tup [.int pl, .str wd, .int kk, .int zz]) = H8 at I8 ht8
    dsimp only
    have hst : SqT K H8 t [.int pl, .str wd, .int kk, .int zz] := st_of ht8
    have dN : Dp K H8 (.ref t) (evD (pl, wd, kk, some zz)) := .tup hst (.cons (.int _) (.cons (.str _) (.cons (.int _) (.cons (.int zz) .nil))))
    have gN : goodEv ks (pl, wd, kk, some zz) := ⟨mk, fun z e => by cases e; omega, hwd⟩
    obtain ⟨n, rfl⟩ : ∃ n : Nat, r = (n : Int) := ⟨r.toNat, by omega⟩
    have fin : ∀ us2 es2 H', OeI K b H L ks H' us2 es2 → es2.length ≤ es.length + 1 → Q (.ref L) H' := fun us2 es2 H' I h => q L us2 es2 H' I.nL I.lb I.fr I.hL I.dE I.good h
    have insN : ∀ (G : Hp) (σ : L2.St), OeI K b H L ks G us es → Dp K G (.ref t) (evD (pl, wd, kk, some zz)) → Q (.ref L) (upd G L (.lst (us.take n ++ [.ref t] ++ us.drop n))) := fun G σ I d => fin _ _ _ (I.put (ins_data I.dE d n) (ins_good I.good gN n)) (by rw [ins_len]; omega)
    refine s_seq (if_or (et_test (ev_opL (ev_var rfl) (el_lst ea_nil (by simp)) fun p5 G5 hp5 e5 G6 e6 Q' q' => ⟨L, p5, us, rfl, rfl, sq_of (e6 _ _ (e5 _ _ I8.hL)), sq_of (e6 _ _ hp5), q' G6 (Ex.refl G6)⟩)) (fun e5 G5 g5 => ?_) fun e5 G5 g5 => s_if (b := decide (wy = 0)) (et_is (et_test (ev_op (ev_var rfl) ev_c (rv_eq rfl))) (by by_cases z : wy = 0 <;> simp [z])) (fun e6 G6 g6 => ?_) fun e6 G6 g6 => s_next ?_)
    · have I9 := I8.keep (Fr.ex I8.fr.bag g5)
      exact s_seq ⟨.ref L, rfl, .inl ⟨rfl, us, sq_of I9.hL⟩, .int (n : Int), rfl, .ref t, rfl, L, us, (n : Int), .ref t, rfl, rfl, I9.hL, sz_lt (by omega), by omega, by omega, _, rfl, insN G5 [] I9 (dp_same g5 _ _ dN)⟩
    · have I9 := I8.keep (Fr.ex I8.fr.bag (g5.trans g6))
      exact s_seq ⟨.ref L, rfl, .inl ⟨rfl, us, sq_of I9.hL⟩, .int (n : Int), rfl, .ref t, rfl, L, us, (n : Int), .ref t, rfl, rfl, I9.hL, sz_lt (by omega), by omega, by omega, _, rfl, insN G6 [] I9 (dp_same (g5.trans g6) _ _ dN)⟩
    have u0 : 0 < us.length := by
      cases us with
      | nil => cases e5
      | cons _ _ => simp
    have I9 := I8.keep (Fr.ex I8.fr.bag (g5.trans g6))
    have hst9 := Evl.ex_t (g5.trans g6) hst
    try dsimp only
    refine s_seq (s_asg (ev_op (ev_var rfl) (ev_len (ev_var rfl) (sq_of I9.hL)) (rv_mod (by omega))) fun G7 g7 => ?_)
    obtain ⟨m, em, ml⟩ : ∃ m : Nat, (n : Int) % (us.length : Int) = (m : Int) ∧ m < us.length := ⟨n % us.length, by omega, Nat.mod_lt _ u0⟩
    rw [em]
    have IA := I9.keep (Fr.ex I9.fr.bag g7)
    have hstA := Evl.ex_t g7 hst9
    have hix : us[m]? = some us[m] := List.getElem?_eq_getElem ml
    have mle : m < es.length := by omega
    obtain ⟨e0, he0⟩ : ∃ e0, es[m]? = some e0 := ⟨_, List.getElem?_eq_getElem mle⟩
    obtain ⟨_, hde, dx⟩ := dps_at IA.dE hix
    rw [List.getElem?_map, he0] at hde
    cases hde
    have ge0 := ge e0 (List.mem_of_getElem? he0)
    dsimp only
    refine seq_mid (fun σ' G' => ∃ y4 y5 y6 y7 y8 us2 es2, σ' = [some (.ref b), some (.ref el), some (.ref lk), some (.ref L), y4, y5, y6, y7, y8] ∧ OeI K b H L ks G' us2 es2 ∧ es2.length ≤ es.length + 1) (fun go => s_seq ?_) (fun σ' G' hR => ?_)
    · refine s_if (b := decide (wy = 1)) (et_is (et_test (ev_op (ev_var rfl) ev_c (rv_eq rfl))) (by by_cases z : wy = 1 <;> simp [z])) (fun e8 G8 g8 => ?_) fun e8 G8 g8 => ?_
      · have IB := IA.keep (Fr.ex IA.fr.bag g8)
        refine ⟨.ref L, rfl, .inl ⟨rfl, us, sq_of IB.hL⟩, .int (m : Int), rfl, L, us, (m : Int), m, us[m], rfl, rfl, IB.hL, by omega, by omega, idx_nat ml, hix, ?_⟩
        refine go _ _ ⟨_, _, _, _, _, _, es.eraseIdx m, rfl, IB.put (by rw [map_eraseI]; exact dps_eraseI m IB.dE) (fun e me => ge e (List.mem_of_mem_eraseIdx me)), by rw [List.length_eraseIdx]; split <;> omega⟩
      refine s_if (b := decide (wy = 2)) (et_is (et_test (ev_op (ev_var rfl) ev_c (rv_eq rfl))) (by by_cases z : wy = 2 <;> simp [z])) (fun e9 G9 g9 => ?_) fun e9 G9 g9 => ?_
      · have IB := IA.keep (Fr.ex IA.fr.bag (g8.trans g9))
        refine ⟨.ref L, rfl, .inl ⟨rfl, us, sq_of IB.hL⟩, .int (m : Int), rfl, ev_lx (ev_var rfl) (ev_var rfl) (sq_of IB.hL) hix G9 (Ex.refl G9) _ fun GA ga => ?_⟩
        have IC := IB.keep (Fr.ex IB.fr.bag ga)
        refine ⟨L, us, (m : Int), us[m], rfl, rfl, IC.hL, sz_lt (by omega), by omega, by omega, ?_⟩
        exact go _ _ ⟨_, _, _, _, _, _, _, rfl, IC.put (ins_data IC.dE (dp_same ((g8.trans g9).trans ga) _ _ dx) m) (ins_good IC.good ge0 m), by rw [ins_len]; omega⟩
      refine s_if (b := decide (wy = 3)) (et_is (et_test (ev_op (ev_var rfl) ev_c (rv_eq rfl))) (by by_cases z : wy = 3 <;> simp [z])) (fun eA GA ga => ?_) fun eA GA ga => ?_
      · have IB := IA.keep (Fr.ex IA.fr.bag ((g8.trans g9).trans ga))
        refine ⟨.ref L, rfl, .inl ⟨rfl, us, sq_of IB.hL⟩, take_of (b := b) (m := (us.length : Int)) IB.fr.bag (ea_cons (ev_var rfl) (ea_cons (ev_len (ev_var rfl) (sq_of IB.hL)) ea_nil)) (by omega) (by omega) fun r2 GB gb r20 r21 => ?_⟩
        have IC := IB.keep gb
        refine ⟨.ref L, rfl, .inl ⟨rfl, us, sq_of IC.hL⟩, .int (m : Int), rfl, L, us, (m : Int), m, us[m], rfl, rfl, IC.hL, by omega, by omega, idx_nat ml, hix, ?_⟩
        have ID := IC.put (us3 := us.eraseIdx m) (es3 := es.eraseIdx m) (by rw [map_eraseI]; exact dps_eraseI m IC.dE) (fun e me => ge e (List.mem_of_mem_eraseIdx me))
        have dxC : Dp K GB us[m] (evD e0) := by
          obtain ⟨_, h1, h2⟩ := dps_at IC.dE hix
          rw [List.getElem?_map, he0] at h1
          cases h1
          exact h2
        have dxD := (Kt.barL IC.hL (Bar.refl L GB).put).dp (H' := upd GB L (.lst (us.eraseIdx m))) 1 _ _ (nl_ev e0) dxC
        generalize upd GB L (.lst (us.eraseIdx m)) = GD at ID dxD
        refine ⟨L, us.eraseIdx m, r2, us[m], rfl, rfl, ID.hL, sz_lt (by rw [List.length_eraseIdx]; split <;> omega), by omega, by omega, ?_⟩
        exact go _ _ ⟨_, _, _, _, _, _, _, rfl, ID.put (ins_data ID.dE dxD r2.toNat) (ins_good ID.good ge0 r2.toNat), by rw [ins_len, List.length_eraseIdx]; split <;> omega⟩
      · have IB := IA.keep (Fr.ex IA.fr.bag ((g8.trans g9).trans ga))
        obtain ⟨pe, epe, hpe⟩ := ev_tuple4 (dp_same ((g8.trans g9).trans ga) _ _ dx)
        refine s_seq (ev_lx (ev_var rfl) (ev_var rfl) (sq_of IB.hL) hix GA (Ex.refl GA) _ fun GB gb => ?_)
        rw [epe]
        refine ⟨pe, _, rfl, .inr (Evl.ex_t gb hpe), fun L2 hL2 => g_name ?_⟩
        have IC := IB.keep (Fr.ex IB.fr.bag gb)
        have ID := IC.keep (Fr.ex IC.fr.bag (Ex.new (o := .lst [.int e0.1, .str e0.2.1, .int e0.2.2.1, opV e0.2.2.2]) hL2))
        have h2 : (upd GB L2 (.lst [.int e0.1, .str e0.2.1, .int e0.2.2.1, opV e0.2.2.2])) L2 = some (.lst [.int e0.1, .str e0.2.1, .int e0.2.2.1, opV e0.2.2.2]) := upd_same
        have L2L : L2 ≠ L := fun z => by
          rw [z, IC.hL] at hL2
          cases hL2
        have L2b : L2 ≠ b := IC.fr.bag.ne hL2
        have nL2 : H L2 = none := IC.fr.free hB hL2
        have hstD := Evl.ex_t (K := K) (((g8.trans g9).trans ga).trans (gb.trans (Ex.new (o := .lst [.int e0.1, .str e0.2.1, .int e0.2.2.1, opV e0.2.2.2]) hL2))) hstA
        generalize upd GB L2 (.lst [.int e0.1, .str e0.2.1, .int e0.2.2.1, opV e0.2.2.2]) = GD at ID h2 hstD
        dsimp only
        refine s_seq (take_of (b := b) (m := 4) ID.fr.bag (ea_cons (ev_var rfl) (ea_cons ev_c ea_nil)) (by decide) (by decide) fun pt GE fe p0 p1 => g_name ?_)
        have IE := ID.keep fe
        have hE := fe.at h2 L2b
        have hstE := (Kt.fr ID.fr.bag fe).t hstD
        obtain ⟨pn, rfl⟩ : ∃ pn : Nat, pt = (pn : Int) := ⟨pt.toNat, by omega⟩
        have pn4 : pn < 4 := by omega
        dsimp only
        obtain ⟨nv, e3, hnv, g3, hset⟩ : ∃ (nv : V) (e3 : Evt), [V.int pl, .str wd, .int kk, .int zz][pn]? = some nv ∧ goodEv ks e3 ∧ [V.int e0.1, .str e0.2.1, .int e0.2.2.1, opV e0.2.2.2].set pn nv = [V.int e3.1, .str e3.2.1, .int e3.2.2.1, opV e3.2.2.2] := by
          have : pn = 0 ∨ pn = 1 ∨ pn = 2 ∨ pn = 3 := by omega
          rcases this with rfl | rfl | rfl | rfl
          · exact ⟨_, (pl, e0.2), rfl, ge0, rfl⟩
          · exact ⟨_, (e0.1, wd, e0.2.2), rfl, ⟨ge0.1, ge0.2.1, hwd⟩, rfl⟩
          · exact ⟨_, (e0.1, e0.2.1, kk, e0.2.2.2), rfl, ⟨mk, ge0.2.1, ge0.2.2⟩, rfl⟩
          · exact ⟨_, (e0.1, e0.2.1, e0.2.2.1, some zz), rfl, ⟨ge0.1, gN.2.1, ge0.2.2⟩, rfl⟩
        refine s_seq (s_setL (l := L2) (j := pn) hE (ev_op (ev_var rfl) (ev_var rfl) (rv_ixT hstE (atI_nat hnv))) (ev_var rfl) (ev_var rfl) (by simp; omega) fun GF gf => ?_)
        rw [hset]
        have IF0 := IE.keep (Fr.ex IE.fr.bag gf)
        have IG : OeI K b H L ks (upd GF L2 (.lst [V.int e3.1, .str e3.2.1, .int e3.2.2.1, opV e3.2.2.2])) us es := by
          refine ⟨IF0.fr.mut nL2 L2b, IF0.nL, IF0.lb, by rw [upd_ne (Ne.symm L2L)]; exact IF0.hL, (Kt.barL (gf _ _ hE) (Bar.refl L2 GF).put).dps (n := 1) (nl_evs es) IF0.dE, IF0.good⟩
        have h3 : (upd GF L2 (.lst [V.int e3.1, .str e3.2.1, .int e3.2.2.1, opV e3.2.2.2])) L2 = some (.lst [V.int e3.1, .str e3.2.1, .int e3.2.2.1, opV e3.2.2.2]) := upd_same
        generalize upd GF L2 (.lst [V.int e3.1, .str e3.2.1, .int e3.2.2.1, opV e3.2.2.2]) = GG at IG h3
        refine ⟨.ref L2, rfl, L2, _, rfl, sq_of h3, fun t2 o ht2 od => ?_⟩
        have xt : Ex GG (upd GG t2 (.frz o (.tup [V.int e3.1, .str e3.2.1, .int e3.2.2.1, opV e3.2.2.2]))) := Ex.new ht2
        have IH := IG.keep (Fr.ex IG.fr.bag xt)
        have hs2 : SqT K (upd GG t2 (.frz o (.tup [V.int e3.1, .str e3.2.1, .int e3.2.2.1, opV e3.2.2.2]))) t2 [V.int e3.1, .str e3.2.1, .int e3.2.2.1, opV e3.2.2.2] := .inl (.inr ⟨o, upd_same⟩)
        generalize upd GG t2 (.frz o (.tup [V.int e3.1, .str e3.2.1, .int e3.2.2.1, opV e3.2.2.2])) = GH at IH hs2
        have d3 : Dp K GH (.ref t2) (evD e3) := .tup hs2 (.cons (.int _) (.cons (.str _) (.cons (.int _) (.cons (dp_op _) .nil))))
        refine ⟨.ref L, rfl, .int (m : Int), rfl, L, us, (m : Int), m, rfl, rfl, IH.hL, ixN_nat ml, ?_⟩
        refine go _ _ ⟨_, _, _, _, _, _, es.set m e3, rfl, IH.put (by rw [List.map_set]; exact dps_set m IH.dE d3) (fun e me => ?_), by rw [List.length_set]; omega⟩
        rcases List.mem_or_eq_of_mem_set me with h | h
        · exact ge e h
        · rw [h]
          exact g3
    · obtain ⟨y4, y5, y6, y7, y8, us2, es2, rfl, I, hl2⟩ := hR
      exact ⟨_, rfl, fin us2 es2 G' I hl2⟩
end
end K29
namespace K29
open PySem L2 PyProof.Rows Tc Evl
abbrev sLaw : Stmt := topS 36
/-- groups of few changes -/
def spChsM (K : PySem.W.Frag) : Sp := fun vs H Q _ => ∃ (b l : Addr) (ks : List Int) (m : Int) (S : Addr → Prop), vs = [.ref b, .ref l, .int m] ∧ Bag H b ∧ Sok S b H ∧ KeysAt b H l ks ∧ 1 ≤ m ∧ m ≤ 6 ∧
  ∀ v ds H', Tc.Fr b H H' → Dp K (cut S H') v (.tuple ds) → (∀ d ∈ ds, goodCh ks d = true) → ds.length ≤ 6 → Q v H'
def spEntM (K : PySem.W.Frag) : Sp := fun vs H Q _ => ∃ (b l : Addr) (ks : List Int) (S : Addr → Prop), vs = [.ref b, .ref l] ∧ Bag H b ∧ Sok S b H ∧ KeysAt b H l ks ∧ ∀ v d H', Tc.Fr b H H' → Dp K (cut S H') v d → goodEn ks d = true → (chsD d).length ≤ 6 → Q v H'
def spLgM (K : PySem.W.Frag) : Sp := fun vs H Q _ => ∃ (b l : Addr) (ks : List Int) (m : Int), vs = [.ref b, .ref l, .int m] ∧ Bag H b ∧ KeysAt b H l ks ∧ 0 ≤ m ∧ m ≤ 100 ∧ ∀ p us ds H', H p = none → p ≠ b → Tc.Fr b H H' → H' p = some (.lst us) → DpAll K H' us ds → (∀ d ∈ ds, goodEn ks d = true) → (ds.length : Int) ≤ m → (∀ d ∈ ds, (chsD d).length ≤ 6) → Q (.ref p) H'
/-- a def with a name behind a star and its default -/
def OwnND (P : Program) (w : World) (K : PySem.W.Frag) (mg : Str → Option Value) (base : Heap) (x : Str) (ps : List Str) (n : Nat) (ns : List Str) (dvs : List V) (k : Nat) (sp : Sp) : Prop :=
  ∃ (f : Addr) (fd : FuncData) (ds : List Value), FnOk P w K mg base CX0 k f fd ps sp ∧ mg x = some (.ref f) ∧ PySem.W.keepIn K (.ref f) = true ∧ KBn K fd ps n ns (· ++ ·) (· ++ ·) ∧ Vals dvs ds ∧ Binds K fd ps ds
section
variable {X : Cx} {x : Str} {ps ns : List Str} {dvs : List V} {n k j : Nat} {sp : Sp} {e : Expr} {es : List Expr} {kws : List Keyword} {t tk : TA} {p pos : Pos}
theorem pe_ownND (d : OwnND X.prog X.w X.K X.mg X.base x ps n ns dvs k sp) (hr : Room j X.A) (hj : k ≤ j) (hg : Gl X x) (ha : PA X (e :: es) t) (hkw : PK X kws tk) (hall : (backToKw pos (keywordEach kws X.env)).all (·.1.isSome) = true := by rfl) (hks : (backToKw pos (keywordEach kws X.env)).filterMap (·.1) = ns := by rfl)
    (hdb : (x == ("__debug__" : Str)) = false := by decide) (he : starEach (e :: es) X.env = (false, eval e X.env) :: starEach es X.env := by rfl) (hpl : ((backTo pos (starEach (e :: es) X.env)).any (·.1) || (backToKw pos (keywordEach kws X.env)).any (·.1.isNone)) = false := by rfl) :
    PE X (.Call (.Name x p) (e :: es) kws pos) (tCallN n ns.length sp (· ++ ·) E0 t tk) := by
  obtain ⟨f, fd, ds, F, hm, hk, hb, _, _⟩ := d
  exact pe_callN F (hr.mono hj) hg hm hk hb pass0 ha hkw hall hks hdb he hpl
theorem pe_ownDD (d : OwnND X.prog X.w X.K X.mg X.base x ps n ns dvs k sp) (hr : Room j X.A) (hj : k ≤ j) (hg : Gl X x) (ha : PA X (e :: es) t)
    (he : starEach (e :: es) X.env = (false, eval e X.env) :: starEach es X.env := by rfl) (hdb : (x == ("__debug__" : Str)) = false := by decide) (hpl : (backTo pos (starEach es X.env)).any (·.1) = false := by rfl) :
    PE X (.Call (.Name x p) (e :: es) [] pos) (tCall sp dvs E0 t) := by
  obtain ⟨f, fd, ds, F, hm, hk, _, hd, hb⟩ := d
  exact pe_call F (hr.mono hj) hg hm hk hb hd pass0 ha hdb he hpl
end
def resD : Option Nat → PyData
  | some n => .int (n : Int)
  | none => .none
theorem dp_res {K : PySem.W.Frag} {H : Hp} (o : Option Nat) : Dp K H (resV o) (resD o) := by
  cases o with
  | none => exact .non
  | some n => exact .int _
theorem sd_res (o : Option Nat) : sd 0 (resD o) = true := by cases o <;> rfl
theorem scLaw : FnScope ["script", "k", "bag", "keys", "table", "log", "sta1", "events", "turn", "handed", "found", "due"] ["script"] (defScope sLaw) := ⟨rfl, rfl, rfl, by decide +kernel, rfl, by decide +kernel, by decide +kernel⟩
section
variable {P : Program} {w : World} {K : PySem.W.Frag} {mg : Str → Option Value} {base : Heap}
theorem ok_chsM {f : Addr} {fd : FuncData} {kT kO kC k : Nat} (F : Fun K "_law_changes" "_law_changes" sLCh f fd) (N : Names mg) (dT : Own P w K mg base "_law_take" ["bag", "many"] kT spTake) (hT : kT ≤ k) (dOf : Own P w K mg base "_law_of" ["bag", "some"] kO spOf) (hO : kO ≤ k) : FnOk P w K mg base CX0 (k + 1) f fd ["bag", "keys", "most"] (spChsM K) := by
  refine F.ok scLCh (fun vs H Q E h => ?_) (fun cdv A outer s H vs Q E hr h => ?_)
  · obtain ⟨b, l, ks, m, S, rfl, _⟩ := h
    rfl
  · obtain ⟨b, l, ks, m, S, rfl, hB, hS, hk, m1, m6, q⟩ := h
    refine ⟨_, (pss_cons (ps_set (i := 3) scLCh.nd rfl (.inl rfl) (pe_lst pa_nil))
      (pss_cons (ps_for PassesOwn.never rfl (pi_range1 rfl N.range (pa_cons (pe_op op_add pe_int (pe_own dT hr hT (by rfl) (pa_cons (pv 0) (pa_cons (pv 2) pa_nil)))) pa_nil)) (pg_name (i := 4) scLCh.nd rfl (.inl rfl)) (pss_cons (ps_set (i := 5) scLCh.nd rfl (.inl rfl) (pe_own dOf hr hO (by rfl) (pa_cons (pv 0) (pa_cons (pv 1) pa_nil))))
      (pss_one (ps_if (pt_cmpR op_eq (pe_own dT hr hT (by rfl) (pa_cons (pv 0) (pa_cons pe_int pa_nil))) pe_int (nomark _)) (pss_one (ps_expr (pe_bm PySem.F.plainAttrs_list PySem.F.slot_list_append PySem.F.type_list_append mt_append (pv 3) (pa_cons (pe_tup (pa_cons pe_str (pa_cons (pv 5) pa_nil))) pa_nil)))) (pss_one (ps_expr (pe_bm PySem.F.plainAttrs_list PySem.F.slot_list_append PySem.F.type_list_append mt_append (pv 3) (pa_cons (pe_tup (pa_cons pe_str (pa_cons (pv 5) (pa_cons (pe_ix ix_list (pe_lst (pa_cons (pe_own dT hr hT (by rfl) (pa_cons (pv 0) (pa_cons pe_int pa_nil))) (pa_cons (pe_own dT hr hT (by rfl) (pa_cons (pv 0) (pa_cons pe_int pa_nil))) pa_nil))) (pe_own dT hr hT (by rfl) (pa_cons (pv 0) (pa_cons pe_int pa_nil))) (fun _ _ => rfl)) pa_nil)))) pa_nil))))))))
      (pss_one (ps_ret (pe_callTy call_tuple_of (by rfl) N.tuple boot_tuple (pa_cons (pv 3) pa_nil)))))), ?_⟩
    refine s_seq ⟨Nat.zero_le _, fun D hD => g_name ?_⟩
    dsimp only
    have c0 : ColE S b K (goodCh ks) H D 0 (upd H D (.lst [])) := ColE.start hS hB hD
    refine s_seq (take_of (b := b) (m := m) c0.fr.bag (ea_cons (ev_var rfl) (ea_cons (ev_var rfl) ea_nil)) (by omega) (by omega) fun r H1 f1 r0 r1 => ⟨1, r, rfl, rfl, 1 + r, rfl, by omega, by omega, ?_⟩)
    refine for_range (lo := 0) (n := (1 + r).toNat) (fun i σ' H' => ∃ y4 y5, σ' = [some (.ref b), some (.ref l), some (.int m), some (.ref D), y4, y5] ∧ ColE S b K (goodCh ks) H D i H') ⟨none, none, rfl, c0.skip f1⟩ (fun i σ' H' hi p => ?_) (fun σ' H' p => ?_)
    · obtain ⟨y4, y5, rfl, c⟩ := p
      have i5 : i < 10000 := by omega
      refine g_name (s_seq ⟨.ref b, rfl, .ref l, rfl, b, l, ks, rfl, c.fr.bag, hk.fr c.fr, fun kk H2 mk f2 => g_name ?_⟩)
      dsimp only
      have hb := hk.bd kk mk
      refine take_of (b := b) (m := 3) f2.bag (ea_cons (ev_var rfl) (ea_cons ev_c ea_nil)) (by decide) (by decide) fun r2 H3 f3 r3 r4 => ⟨rfl, _, rfl, ite2 (fun e => ?_) (fun e => ?_)⟩
      · obtain ⟨vs, _, hDv, _⟩ := (c.skip (f2.trans f3)).ex
        refine ⟨.ref D, rfl, .inl ⟨rfl, vs, sq_of hDv⟩, .int kk, rfl, sz_of (by simp), fun p hp => ?_⟩
        obtain ⟨acc, h1, h2, h3⟩ := c.push ((f2.trans f3).trans (Fr.new f3.bag hp)) (dp_leaves (c.skip (f2.trans f3)).sokD hp fun H2 => .cons (.str "drop") (.cons (.int kk) .nil)) (gq_drop mk) i5
        exact ⟨D, acc, .ref p, rfl, rfl, h1, h2, _, _, rfl, h3⟩
      · obtain ⟨vs, _, hDv, _⟩ := (c.skip (f2.trans f3)).ex
        refine ⟨.ref D, rfl, .inl ⟨rfl, vs, sq_of hDv⟩, .int kk, rfl, take_of (b := b) (m := 1000) f3.bag (ea_cons (ev_var rfl) (ea_cons ev_c ea_nil)) (by decide) (by decide) fun w1 H4 f4 w2 w3 => take_of (b := b) (m := 3) f4.bag (ea_cons (ev_var rfl) (ea_cons ev_c ea_nil)) (by decide) (by decide) fun w4 H5 f5 w5 w6 => ⟨sz_of (by simp), fun L hL => ?_⟩⟩
        have fL := Fr.new (o := .lst [.int w1, .int w4]) f5.bag hL
        refine take_of (b := b) (m := 2) fL.bag (ea_cons (ev_var rfl) (ea_cons ev_c ea_nil)) (by decide) (by decide) fun w7 H6 f6 w8 w9 => ?_
        have hL6 : H6 L = some (.lst [.int w1, .int w4]) := f6.at upd_same (f5.bag.ne hL)
        have fA := (((f2.trans f3).trans (f4.trans f5)).trans fL).trans f6
        obtain ⟨n, rfl⟩ : ∃ n : Nat, w7 = (n : Int) := ⟨w7.toNat, by omega⟩
        obtain ⟨wv, hwv, hwb⟩ : ∃ wv : Int, [V.int w1, .int w4][n]? = some (.int wv) ∧ (0 ≤ wv ∧ wv < 1000) := by
          have : n = 0 ∨ n = 1 := by omega
          rcases this with rfl | rfl
          · exact ⟨w1, rfl, w2, w3⟩
          · exact ⟨w4, rfl, w5, by omega⟩
        refine ⟨L, _, n, .int wv, rfl, rfl, sq_of hL6, atI_nat hwv, sz_of (by simp), fun p hp => ?_⟩
        obtain ⟨acc, h1, h2, h3⟩ := c.push (fA.trans (Fr.new f6.bag hp)) (dp_leaves (c.skip fA).sokD hp fun H2 => .cons (.str "put") (.cons (.int kk) (.cons (.int wv) .nil))) (gq_put mk hwb) i5
        exact ⟨D, acc, .ref p, rfl, rfl, h1, h2, _, _, rfl, h3⟩
    · obtain ⟨y4, y5, rfl, c⟩ := p
      obtain ⟨vs, ds, h1, h2, h3, h4⟩ := c.ex
      dsimp only
      have hl := dps_len h2
      exact ⟨.ref D, rfl, D, vs, rfl, .inl ⟨sq_of h1, fun p hp => q (.ref p) ds _ (c.fr.trans (Fr.new c.fr.bag hp)) (cdt_new (hS.fr c.fr) c.fr.bag hp (dps_same also_same _ _ h2)) h4 (by omega)⟩⟩
theorem ok_entM {f : Addr} {fd : FuncData} {kT kO kC k : Nat} (F : Fun K "_law_entry" "_law_entry" sLEn f fd) (N : Names mg) (dT : Own P w K mg base "_law_take" ["bag", "many"] kT spTake) (hT : kT ≤ k) (dC : Own P w K mg base "_law_changes" ["bag", "keys", "most"] kC (spChsM K)) (hC : kC ≤ k) : FnOk P w K mg base CX0 (k + 1) f fd ["bag", "keys"] (spEntM K) := by
  refine F.ok scLEn (fun vs H Q E h => ?_) (fun cdv A outer s H vs Q E hr h => ?_)
  · obtain ⟨b, l, ks, S, rfl, _⟩ := h
    rfl
  · obtain ⟨b, l, ks, S, rfl, hB, hS, hk, q⟩ := h
    refine ⟨_, (pss_cons (ps_if (pt_cmpR op_eq (pe_own dT hr hT (by rfl) (pa_cons (pv 0) (pa_cons pe_int pa_nil))) pe_int (nomark _)) (pss_one (ps_ret (pe_tup (pa_cons (pe_ix ix_list (pe_lst (pa_cons pe_str (pa_cons pe_str pa_nil))) (pe_own dT hr hT (by rfl) (pa_cons (pv 0) (pa_cons pe_int pa_nil))) (fun _ _ => rfl)) (pa_cons (pe_op op_add pe_int (pe_own dT hr hT (by rfl) (pa_cons (pv 0) (pa_cons pe_int pa_nil)))) (pa_cons (pe_own dT hr hT (by rfl) (pa_cons (pv 0) (pa_cons pe_int pa_nil))) pa_nil)))))) pss_nil)
      (pss_one (ps_ret (pe_tup (pa_cons pe_str (pa_cons (pe_own dC hr hC (by rfl) (pa_cons (pv 0) (pa_cons (pv 1) (pa_cons pe_int pa_nil)))) pa_nil)))))), ?_⟩
    refine s_seq (take_of (b := b) (m := 4) hB (ea_cons (ev_var rfl) (ea_cons ev_c ea_nil)) (by decide) (by decide) fun r H1 f1 r0 r1 => ⟨rfl, _, rfl, ite2 (fun e => ?_) (fun e => s_next ?_)⟩)
    · refine item_new (K := K) (b := b) (xs := [.str "low", .str "high"]) (el_lst (ea_cons ev_c (ea_cons ev_c ea_nil)) (by simp)) f1.bag (fun H2 f2 Q q => take_of (m := 2) f2.bag (ea_cons (ev_var rfl) (ea_cons ev_c ea_nil)) (by decide) (by decide) q) fun v H2 f2 hv => ?_
      obtain ⟨s, rfl, hs⟩ : ∃ s : Str, v = .str s ∧ (s = "low" ∨ s = "high") := by
        simp only [List.mem_cons, List.not_mem_nil, or_false] at hv
        rcases hv with h | h
        · exact ⟨_, h, .inl rfl⟩
        · exact ⟨_, h, .inr rfl⟩
      refine take_of (b := b) (m := 4) f2.bag (ea_cons (ev_var rfl) (ea_cons ev_c ea_nil)) (by decide) (by decide) fun a1 H3 f3 a2 a3 => ⟨1, a1, rfl, rfl, take_of (b := b) (m := 9) f3.bag (ea_cons (ev_var rfl) (ea_cons ev_c ea_nil)) (by decide) (by decide) fun a4 H4 f4 a5 a6 => ⟨sz_of (by simp), fun p hp => ?_⟩⟩
      have fA := (f1.trans f2).trans (f3.trans f4)
      exact q (.ref p) _ _ (fA.trans (Fr.new fA.bag hp)) (dp_leaves (hS.fr fA) hp fun H2 => .cons (.str s) (.cons (.int (1 + a1)) (.cons (.int a4) .nil))) (gq_mark hs) (Nat.zero_le _)
    · refine ⟨.ref b, rfl, .ref l, rfl, b, l, ks, 3, S, rfl, f1.bag, hS.fr f1, hk.fr f1, by decide, by decide, fun v ds H2 f2 hd hg hl6 => ⟨sz_of (by simp), fun p hp => ?_⟩⟩
      have fA := f1.trans f2
      exact q (.ref p) _ _ (fA.trans (Fr.new fA.bag hp)) (cdt_new (hS.fr fA) fA.bag hp (.cons (.str "group") (.cons hd .nil))) (gq_group hg) hl6
theorem ok_llogM {f : Addr} {fd : FuncData} {kT kO kC k : Nat} (F : Fun K "_law_log" "_law_log" sLLog f fd) (N : Names mg) (dT : Own P w K mg base "_law_take" ["bag", "many"] kT spTake) (hT : kT ≤ k) (dE : Own P w K mg base "_law_entry" ["bag", "keys"] kC (spEntM K)) (hE : kC ≤ k) : FnOk P w K mg base CX0 (k + 1) f fd ["bag", "keys", "most"] (spLgM K) := by
  refine F.ok scLLog (fun vs H Q E h => ?_) (fun cdv A outer s H vs Q E hr h => ?_)
  · obtain ⟨b, l, ks, m, rfl, _⟩ := h
    rfl
  · obtain ⟨b, l, ks, m, rfl, hB, hk, m0, m1, q⟩ := h
    obtain ⟨S, eS⟩ : ∃ S : Addr → Prop, S = fun a => a = b := ⟨_, rfl⟩
    have hS : Sok S b H := ⟨by rw [eS], fun a m => by
      have mm : a = b := by rw [eS] at m; exact m
      subst mm
      obtain ⟨_, _, e, _⟩ := hB
      rw [e]
      exact fun z => nomatch z⟩
    refine ⟨_, pss_one (ps_ret (pe_lc (own := [("turn", 3)]) (g := gName 3) (tt := tYes) rfl scLLog.nd (pi_range1 rfl N.range (pa_cons (pe_own dT hr hT (by rfl) (pa_cons (pv 0) (pa_cons (pe_op op_add (pv 2) pe_int) pa_nil))) pa_nil)) (blkOk_by (N := ["bag", "keys", "most", "turn"]) (sc := defScope sLLog) (by decide +kernel)) (fun _ _ _ _ _ => pg_name (i := 3) scLLog.nd rfl (Or.inl rfl)) (fun _ _ _ _ _ => pts_nil) (fun _ _ _ _ _ => (pe_own dE hr hE (by rfl) (pa_cons (pv 0) (pa_cons (pv 1) pa_nil)))))), ?_⟩
    refine take_of (b := b) (m := m + 1) hB (ea_cons (ev_var rfl) (ea_cons (ev_op (ev_var rfl) ev_c rv_add) ea_nil)) (by omega) (by omega) fun r H1 f1 r0 r1 => ⟨r, rfl, by omega, by omega, fun D hD => ?_⟩
    refine lc_range (lo := 0) (n := r.toNat) (ColE S b K (fun d => goodEn ks d && decide ((chsD d).length ≤ 6)) H1 D) (ColE.start (hS.fr f1) f1.bag hD) (fun j H' hj c => ⟨rfl, iteT (B := ColE S b K (fun d => goodEn ks d && decide ((chsD d).length ≤ 6)) H1 D (j + 1) H') ?_⟩) (fun H' c => ?_)
    · refine ⟨.ref b, rfl, .ref l, rfl, b, l, ks, also S D, rfl, c.fr.bag, c.sokD, hk.fr (f1.trans c.fr), fun v d H2 f2 hd hg hl6 => c.push f2 hd (by rw [hg, decide_eq_true hl6]; rfl) (by omega)⟩
    · obtain ⟨vs, ds, h1, h2, h3, h4⟩ := c.ex
      have hl := dps_len h2
      have c2 := c.from hS f1
      exact q D vs ds H' c2.new c2.ne c2.fr h1 (dps_same (cut_same _ _) _ _ h2) (fun d m => by have := h4 d m; rw [Bool.and_eq_true, decide_eq_true_eq] at this; exact this.1) (by omega) (fun d m => by have := h4 d m; rw [Bool.and_eq_true, decide_eq_true_eq] at this; exact this.2)
end
section
variable {P : Program} {w : World} {K : PySem.W.Frag} {mg : Str → Option Value} {base : Heap}
def spLaw (K : PySem.W.Frag) : Sp := fun vs H Q _ => ∃ (a : Addr) (ns : List Int), vs = [.ref a] ∧ SqL K H a (ns.map V.int) ∧ ns.length ≤ 63 ∧ ∀ H', Q (.bl true) H'
theorem ev_min2 {σ : L2.St} {H : Hp} {ta tb : TE} {i j : Int} (ha : Ev ta σ H (.int i)) (hb : Ev tb σ H (.int j)) : Ev (tCB (fun xs H Q => ∃ i j, xs = [.int i, .int j] ∧ Q (.int (if j < i then j else i)) H) (tCons ta (tCons tb tNil))) σ H (.int (if j < i then j else i)) :=
  ev_cb (ea_cons ha (ea_cons hb ea_nil)) fun H1 _ _ q => ⟨i, j, rfl, q H1 (Ex.refl H1)⟩
theorem exFr {b : Addr} {H0 H1 H2 : Hp} (x : Ex H0 H1) (hb : H0 b = none) (f : Tc.Fr b H1 H2) : Ex H0 H2 := fun a u h => f.at (x a u h) fun z => by
  rw [z, hb] at h
  cases h
set_option maxHeartbeats 4000000 in
theorem ok_law {f : Addr} {fd : FuncData} {kB kT kKs kTb kLg kTe kWa kOe kFw k : Nat} (F : Fun K "law" "law" sLaw f fd) (N : Names mg) (dB : Own P w K mg base "_law_bag" ["script", "k"] kB (spBag K)) (hB : kB ≤ k) (dT : Own P w K mg base "_law_take" ["bag", "many"] kT spTake) (hT : kT ≤ k) (dKs : Own P w K mg base "_law_keys" ["bag"] kKs spKeysQ) (hKs : kKs ≤ k) (dTb : Own P w K mg base "_law_table" ["bag", "keys"] kTb (spTabP K)) (hTb : kTb ≤ k) (dLg : Own P w K mg base "_law_log" ["bag", "keys", "most"] kLg (spLgM K)) (hLg : kLg ≤ k) (dTe : Own P w K mg base "_law_true_events" ["bag", "table", "log", "sta1"] kTe (spTe K)) (hTe : kTe ≤ k) (dWa : Own P w K mg base "_law_wrong_at" ["table", "log", "events", "sta1"] kWa (spWa K)) (hWa : kWa ≤ k) (dOe : Own P w K mg base "_law_other_events" ["bag", "events", "keys"] kOe (spOe K)) (hOe : kOe ≤ k) (dFw : OwnND P w K mg base "first_wrong" ["table", "log", "events", "start"] 3 ["start"] [.int 0] kFw (spFw K)) (hFw : kFw ≤ k) : FnOk P w K mg base CX0 (k + 1) f fd ["script"] (spLaw K) := by
  refine F.ok scLaw (fun vs H Q E h => ?_) (fun cdv A outer s H vs Q E hr h => ?_)
  · obtain ⟨a, ns, rfl, _⟩ := h
    rfl
  · obtain ⟨a, ns, rfl, hA, hn, q⟩ := h
    refine ⟨_, (pss_cons (ps_for PassesOwn.never rfl (pi_range1 rfl N.range (pa_cons (pe_op op_add pe_int (pe_callB (call_min2 rfl) (by rfl) N.min boot_min (pa_cons (pe_callB call_len_seq (by rfl) N.len PySem.boot_len (pa_cons (pv 0) pa_nil)) (pa_cons pe_int pa_nil)))) pa_nil)) (pg_name (i := 1) scLaw.nd rfl (.inl rfl)) (pss_cons (ps_set (i := 2) scLaw.nd rfl (.inl rfl) (pe_own dB hr hB (by rfl) (pa_cons (pv 0) (pa_cons (pv 1) pa_nil))))
      (pss_cons (ps_set (i := 3) scLaw.nd rfl (.inl rfl) (pe_own dKs hr hKs (by rfl) (pa_cons (pv 2) pa_nil)))
      (pss_cons (ps_set (i := 4) scLaw.nd rfl (.inl rfl) (pe_own dTb hr hTb (by rfl) (pa_cons (pv 2) (pa_cons (pv 3) pa_nil))))
      (pss_cons (ps_set (i := 5) scLaw.nd rfl (.inl rfl) (pe_own dLg hr hLg (by rfl) (pa_cons (pv 2) (pa_cons (pv 3) (pa_cons pe_int pa_nil)))))
      (pss_cons (ps_set (i := 6) scLaw.nd rfl (.inl rfl) (pe_op op_mul (pe_own dT hr hT (by rfl) (pa_cons (pv 2) (pa_cons (pe_op op_add (pe_callB call_len_seq (by rfl) N.len PySem.boot_len (pa_cons (pv 5) pa_nil)) pe_int) pa_nil))) (pe_own dT hr hT (by rfl) (pa_cons (pv 2) (pa_cons pe_int pa_nil)))))
      (pss_cons (ps_set (i := 7) scLaw.nd rfl (.inl rfl) (pe_own dTe hr hTe (by rfl) (pa_cons (pv 2) (pa_cons (pv 4) (pa_cons (pv 5) (pa_cons (pv 6) pa_nil))))))
      (pss_one (ps_for PassesOwn.never rfl (pi_range1 rfl N.range (pa_cons pe_int pa_nil)) (pg_name (i := 8) scLaw.nd rfl (.inl rfl)) (pss_cons (ps_set (i := 9) scLaw.nd rfl (.inl rfl) (pe_callTy call_list_of (by rfl) N.list boot_list (pa_cons (pv 7) pa_nil)))
      (pss_cons (ps_set (i := 10) scLaw.nd rfl (.inl rfl) (pe_ownND dFw hr hFw (by rfl) (pa_cons (pv 4) (pa_cons (pv 5) (pa_cons (pv 9) pa_nil))) (pk_cons (pv 6) pk_nil)))
      (pss_cons (ps_if (PW.pt (pw_and (pt_cmpR op_eq (pv 6) pe_int (nomark _)) (pw_and1 (pt_cmpR (op_neD hr.units) (pv 10) (pe_ownDD dFw hr hFw (by rfl) (pa_cons (pv 4) (pa_cons (pv 5) (pa_cons (pv 9) pa_nil)))) (nomark _))))) (pss_one (ps_ret pe_bl)) pss_nil)
      (pss_cons (ps_set (i := 11) scLaw.nd rfl (.inl rfl) (pe_own dWa hr hWa (by rfl) (pa_cons (pv 4) (pa_cons (pv 5) (pa_cons (pv 7) (pa_cons (pv 6) pa_nil))))))
      (pss_cons (ps_if (PW.pt (pw_or (pt_cmpR (op_neD hr.units) (pv 10) (pv 11) (nomark _)) (pw_or1 (pt_cmpR (op_neD hr.units) (pv 9) (pv 7) (nomark _))))) (pss_one (ps_ret pe_bl)) pss_nil)
      (pss_cons (ps_if (PW.pt (pw_and (pt_cmpR op_eq (pv 8) pe_int (nomark _)) (pw_and1 (pt_cmpR op_notN1 (pv 10) pe_non (nomark _))))) (pss_one (ps_ret pe_bl)) pss_nil)
      (pss_one (ps_set (i := 7) scLaw.nd rfl (.inl rfl) (pe_own dOe hr hOe (by rfl) (pa_cons (pv 2) (pa_cons (pv 7) (pa_cons (pv 3) pa_nil)))))))))))))))))))))
      (pss_one (ps_ret pe_bl))), ?_⟩
    have hmn : 0 ≤ 1 + (if (10 : Int) < ((ns.map V.int).length : Int) then (10 : Int) else ((ns.map V.int).length : Int)) ∧ 1 + (if (10 : Int) < ((ns.map V.int).length : Int) then (10 : Int) else ((ns.map V.int).length : Int)) ≤ 100 := by
      split <;> omega
    refine s_seq (s_forR1 (n := 1 + (if (10 : Int) < ((ns.map V.int).length : Int) then (10 : Int) else ((ns.map V.int).length : Int))) (ea_cons (ev_op ev_c (ev_min2 (ev_len (ev_var rfl) hA) ev_c) rv_add) ea_nil) ⟨hmn.1, by omega⟩
      (fun i σ' H' => ∃ y1 y2 y3 y4 y5 y6 y7 y8 y9 y10 y11, σ' = [some (.ref a), y1, y2, y3, y4, y5, y6, y7, y8, y9, y10, y11] ∧ SqL K H' a (ns.map V.int)) (fun H1 x1 => ⟨none, none, none, none, none, none, none, none, none, none, none, rfl, Evl.ex_l x1 hA⟩) (fun i σ' H' hi p => ?_) (fun σ' H' p => ?_))
    · obtain ⟨y1, y2, y3, y4, y5, y6, y7, y8, y9, y10, y11, rfl, hA'⟩ := p
      have hi2 : i ≤ 1000 := by omega
      refine s_seq ⟨.ref a, rfl, .int (i : Int), rfl, a, ns, i, rfl, hA', hi2, fun b H1 hb x1 hB1 => g_name ?_⟩
      dsimp only
      refine s_seq ⟨.ref b, rfl, b, rfl, hB1, fun lk ks H2 f2 hK2 h64 => g_name ?_⟩
      dsimp only
      refine s_seq ⟨.ref b, rfl, .ref lk, rfl, b, lk, ks, rfl, f2.bag, hK2, fun pt rs H3 f3 tp3 hrs hws => g_name ?_⟩
      dsimp only
      have hK3 := hK2.fr f3
      refine s_seq ⟨.ref b, rfl, .ref lk, rfl, b, lk, ks, 15, rfl, f3.bag, hK3, by decide, by decide, fun l us ds H4 nl nlb f4 hl4 hA4 g4 z4 cl4 => g_name ?_⟩
      dsimp only
      have hK4 := hK3.fr f4
      obtain ⟨bs3, hb3⟩ := f3.bag.lst
      have tp4 := tp3.bar hb3 f4.bar
      have dlen : ds.length ≤ 100 := by omega
      have ulen : us.length = ds.length := dps_len hA4
      have lg4 : LogAt K H4 l ks ds := ⟨⟨us, sq_of hl4, hA4⟩, g4⟩
      have cl10 : ∀ d ∈ ds, (chsD d).length ≤ 10 := fun d m => by have := cl4 d m; omega
      have hkb := hK2.bd
      refine s_seq (take_of (b := b) (m := (us.length : Int) + 1) f4.bag (ea_cons (ev_var rfl) (ea_cons (ev_op (ev_len (ev_var rfl) (sq_of hl4)) ev_c rv_add) ea_nil)) (by omega) (by omega) fun r H5 f5 r0 r1 => take_of (b := b) (m := 2) f5.bag (ea_cons (ev_var rfl) (ea_cons ev_c ea_nil)) (by decide) (by decide) fun r2 H6 f6 r20 r21 => ⟨r, r2, rfl, rfl, .inr ⟨by omega, by omega⟩, g_name ?_⟩)
      obtain ⟨st, est, sle⟩ : ∃ st : Nat, r * r2 = (st : Int) ∧ st ≤ ds.length := by
        have : r2 = 0 ∨ r2 = 1 := by omega
        rcases this with rfl | rfl
        · exact ⟨0, by omega, by omega⟩
        · exact ⟨r.toNat, by omega, by omega⟩
      dsimp only
      rw [est]
      have f46 := f5.trans f6
      obtain ⟨bs4, hb4⟩ := f4.bag.lst
      have lg6 := lg4.bar hb4 f46.bar nlb
      have tp6 := tp4.bar hb4 f46.bar
      have hK6 := hK4.fr f46
      refine s_seq ⟨.ref b, rfl, .ref pt, rfl, .ref l, rfl, .int (st : Int), rfl, b, pt, l, rs, ks, ds, st, rfl, f6.bag, nlb, tp6, hrs, hws, h64, lg6, dlen, cl10, sle, fun ev us7 es7 s7 H7 nev evb f7 hev7 dE7 ge7 run7 len7 => g_name ?_⟩
      dsimp only
      have fr17 : Tc.Fr b H1 H7 := (((f2.trans f3).trans f4).trans f46).trans f7
      have xa7 : Ex H' H7 := exFr x1 hb fr17
      obtain ⟨bs6, hb6⟩ := f6.bag.lst
      have lgF : ∀ G, Tc.Fr b H6 G → LogAt K G l ks ds := fun G f => lg6.bar hb6 f.bar nlb
      have tpF : ∀ G, Tc.Fr b H6 G → TP K G pt rs := fun G f => tp6.bar hb6 f.bar
      refine s_forR1 (n := 5) (ea_cons ev_c ea_nil) ⟨by decide, by decide⟩ (fun j σ' G => ∃ ev us es y8 y9 y10 y11, σ' = [some (.ref a), some (.int (i : Int)), some (.ref b), some (.ref lk), some (.ref pt), some (.ref l), some (.int (st : Int)), some (.ref ev), y8, y9, y10, y11] ∧ Tc.Fr b H6 G ∧ G ev = some (.lst us) ∧ DpAll K G us (es.map evD) ∧ (∀ e ∈ es, goodEv ks e) ∧ es.length ≤ 1100 + j ∧ (j = 0 → wrong rs ds st ⟨st, 0, []⟩ 0 es = none) ∧ Ex H' G) (fun H8 x8 => ⟨ev, us7, es7, y8, y9, y10, y11, rfl, f7.trans (Fr.ex f7.bag x8), x8 _ _ hev7, dps_same x8 _ _ dE7, ge7, by omega, fun _ => wrong_run es7 _ _ 0 run7, xa7.trans x8⟩) (fun j σ' G hj h => ?_) (fun σ' G h => ?_)
      · obtain ⟨ev, us, es, z8, z9, z10, z11, rfl, fG, hev, dE, ge, el, w0, xaG⟩ := h
        try dsimp only
        have j5 : j < 5 := by omega
        refine s_seq ⟨.ref ev, rfl, ev, us, rfl, .inl (sq_of hev), fun hd hhd => g_name ?_⟩
        dsimp only
        have xh : Ex G (upd G hd (.lst us)) := Ex.new hhd
        have hh : (upd G hd (.lst us)) hd = some (.lst us) := upd_same
        generalize upd G hd (.lst us) = G1 at xh hh
        have F1 := fG.trans (Fr.ex fG.bag xh)
        have dE1 := dps_same xh _ _ dE
        refine s_seq ⟨.ref pt, rfl, .ref l, rfl, .ref hd, rfl, .int (st : Int), rfl, rfl, rfl, .ref pt, l, hd, rs, ks, ds, st, us, es, rfl, (tpF G1 F1).dp, hrs, h64, hkb, lgF G1 F1, dlen, cl10, sle, sq_of hh, dE1, ge, by omega, fun G2 g2 => g_name ?_⟩
        dsimp only
        generalize hW : wrong rs ds st ⟨st, 0, []⟩ 0 es = W at w0
        have F2 := F1.trans (Fr.ex F1.bag g2)
        refine seq_mid (fun σ' G' => σ' = [some (.ref a), some (.int (i : Int)), some (.ref b), some (.ref lk), some (.ref pt), some (.ref l), some (.int (st : Int)), some (.ref ev), some (.int (j : Int)), some (.ref hd), some (resV W), z11] ∧ Ex G2 G') (fun go => s_seq ?_) (fun σ' G' hR => ?_)
        · refine if_and (b1 := decide (st = 0)) (et_is (et_test (ev_op (ev_var rfl) ev_c (rv_eq rfl))) (by by_cases z : st = 0 <;> simp [z])) (fun e G3 g3 => ?_) (fun e G3 g3 => go _ _ ⟨rfl, g3⟩)
          have e := of_decide_eq_true e
          subst e
          have F3 := F2.trans (Fr.ex F2.bag g3)
          have x13 := g2.trans g3
          refine ⟨resV W, rfl, .ref pt, rfl, .ref l, rfl, .ref hd, rfl, .ref pt, l, hd, rs, ks, ds, 0, us, es, rfl, (tpF G3 F3).dp, hrs, h64, hkb, lgF G3 F3, dlen, cl10, sle, sq_of (x13 _ _ hh), dps_same x13 _ _ dE1, ge, by omega, fun G4 g4 => ?_⟩
          rw [hW]
          refine ⟨resD W, resD W, dp_res W, dp_res W, sd_sh (sd_res W) (by decide), sd_sh (sd_res W) (by decide), _, rfl, ite2 (fun e => ?_) (fun e => go _ _ ⟨rfl, g3.trans g4⟩)⟩
          rw [sd_eq (sd_res W)] at e
          cases e
        · obtain ⟨rfl, g3⟩ := hR
          have F3 := F2.trans (Fr.ex F2.bag g3)
          have x13 := g2.trans g3
          have hev3 := x13 _ _ (xh _ _ hev)
          have dE3 := dps_same x13 _ _ dE1
          try dsimp only
          refine s_seq ⟨.ref pt, rfl, .ref l, rfl, .ref ev, rfl, .int (st : Int), rfl, pt, l, ev, rs, ks, ds, st, us, es, rfl, tpF _ F3, hrs, h64, lgF _ F3, dlen, cl10, sle, sq_of hev3, dE3, ge, by omega, fun G4 g4 => g_name ?_⟩
          dsimp only
          rw [hW]
          have x14 := x13.trans g4
          have F4 := F3.trans (Fr.ex F3.bag g4)
          have hev4 := g4 _ _ hev3
          have dE4 := dps_same g4 _ _ dE3
          have hh4 := x14 _ _ hh
          refine s_seq (if_or (b1 := false) (fun G5 e5 Q' q' => ⟨resV W, rfl, resV W, rfl, resD W, resD W, dp_res W, dp_res W, sd_sh (sd_res W) (by decide), sd_sh (sd_res W) (by decide), _, rfl, by rw [sd_eq (sd_res W)]; exact q' G5 (Ex.refl G5)⟩) (fun e => by cases e) fun _ G5 g5 => s_if (b := false) (fun G6 e6 Q' q' => ?_) (fun e => by cases e) fun _ G6 g6 => s_next ?_)
          · have sl2 : sd 2 (.list (es.map evD)) = true := List.all_eq_true.mpr fun d md => by
              obtain ⟨e', me, rfl⟩ := List.mem_map.mp md
              exact sd_ev (ge e' me).2.2
            have y6 := g5.trans e6
            refine ⟨.ref hd, rfl, .ref ev, rfl, .list (es.map evD), .list (es.map evD), .lst (sq_of (y6 _ _ hh4)) (dps_same y6 _ _ dE4), .lst (sq_of (y6 _ _ hev4)) (dps_same y6 _ _ dE4), sd_sh sl2 (by decide), sd_sh sl2 (by decide), _, rfl, ?_⟩
            rw [sd_eq sl2]
            exact q' G6 (Ex.refl G6)
          have x46 := g5.trans g6
          have F6 := F4.trans (Fr.ex F4.bag x46)
          try dsimp only
          refine seq_mid (fun σ' G' => σ' = [some (.ref a), some (.int (i : Int)), some (.ref b), some (.ref lk), some (.ref pt), some (.ref l), some (.int (st : Int)), some (.ref ev), some (.int (j : Int)), some (.ref hd), some (resV W), some (resV W)] ∧ Ex G6 G') (fun go => s_seq ?_) (fun σ' G' hR => ?_)
          · refine if_and (b1 := decide (j = 0)) (et_is (et_test (ev_op (ev_var rfl) ev_c (rv_eq rfl))) (by by_cases z : j = 0 <;> simp [z])) (fun e G7 g7 => ?_) (fun e G7 g7 => go _ _ ⟨rfl, g7⟩)
            have e := of_decide_eq_true e
            have hw := w0 e
            rw [hw] at go ⊢
            exact ⟨.non, rfl, rfl, _, rfl, ite2 (fun e => by simp at e) (fun e => go _ _ ⟨rfl, g7⟩)⟩
          · obtain ⟨rfl, g7⟩ := hR
            have F7 := F6.trans (Fr.ex F6.bag g7)
            have x47 := x46.trans g7
            have hev7 := x47 _ _ hev4
            have dE7 := dps_same x47 _ _ dE4
            try dsimp only
            refine ⟨.ref b, rfl, .ref ev, rfl, .ref lk, rfl, b, ev, lk, ks, us, es, rfl, F7.bag, hev7, dE7, ge, by omega, hK6.fr F7, fun L us2 es2 H9 nL Lb f9 hL dE2 ge2 len2 => g_name ?_⟩
            have xGG : Ex G G' := (xh.trans x14).trans x47
            exact ⟨L, us2, es2, _, _, _, _, rfl, F7.trans f9, hL, dE2, ge2, by omega, fun z => by omega, exFr (xaG.trans xGG) hb f9⟩
      · obtain ⟨ev, us, es, z8, z9, z10, z11, rfl, fG, hev, dE, ge, el, w0, xaG⟩ := h
        exact ⟨_, _, _, _, _, _, _, _, _, _, _, rfl, Evl.ex_l xaG hA'⟩
    · obtain ⟨y1, y2, y3, y4, y5, y6, y7, y8, y9, y10, y11, rfl, hA'⟩ := p
      exact q H'
end
end K29
/-! the top's run looked at in parts -/
namespace Tc
open PySem PySem.Spec PyProof.Rows L2 He HandSHeadRun PySem.W
theorem obsM_app (fs1 fs2 : List (PySem.W.Frag → Bool)) (fn1 fn2 : List DefD) (xs : List XcD) (K : PySem.W.Frag) (h1 : obsM fs1 fn1 xs K = valM fn1 xs) (h2 : obsM fs2 fn2 [] K = valM fn2 []) : obsM (fs1 ++ fs2) (fn1 ++ fn2) xs K = valM (fn1 ++ fn2) xs := by
  have a1 := congrArg (fun z : AlM => z.1) h1
  have a2 := congrArg (fun z : AlM => z.2.1) h1
  have a3 := congrArg (fun z : AlM => z.2.2) h1
  have b1 := congrArg (fun z : AlM => z.1) h2
  have b2 := congrArg (fun z : AlM => z.2.1) h2
  obtain ⟨c1, c2⟩ := ba (show ((fs1.all fun f => f K) && fn1.all fun d => d.ok K) = true from a1)
  obtain ⟨d1, d2⟩ := ba (show ((fs2.all fun f => f K) && fn2.all fun d => d.ok K) = true from b1)
  refine Prod.ext ?_ (Prod.ext ?_ a3)
  · show (((fs1 ++ fs2).all fun f => f K) && (fn1 ++ fn2).all fun d => d.ok K) = true
    rw [List.all_append, List.all_append, c1, c2, d1, d2]
    rfl
  · show (fn1 ++ fn2).map (fun d => fnW K d.at_) = (fn1 ++ fn2).map DefD.val
    rw [List.map_append, List.map_append]
    exact congr (congrArg _ a2) b2
theorem run_parts {r : OpenRow} {q : Program} {n M : Nat} {loose : List PySem.Str} {w : World} {fs1 fs2 : List (PySem.W.Frag → Bool)} {fn1 fn2 : List DefD} {xs : List XcD}
    (hA : ∀ os : OsState, (endF (stepQ (denQ tabQ) r.prog w) M r.prog w os).map (fun s => (looksF r.prog (boot_heap w.params) s.abs, seenQ q loose (importedModules r.prog.main.body) (fun s => xlAt q [] s && recOk r.toRowW.records s) s.abs)) = some (true, openGood q loose))
    (hB : ∀ os : OsState, (endF (stepQ (denQ tabQ) r.prog w) M r.prog w os).map (fun s => obsMG n fs1 fn1 xs (getT s)) = some (valM fn1 xs))
    (hC : ∀ os : OsState, (endF (stepQ (denQ tabQ) r.prog w) M r.prog w os).map (fun s => obsMG n fs2 fn2 [] (getT s)) = some (valM fn2 [])) :
    RunEq r q (hookM n (fs1 ++ fs2) (fn1 ++ fn2) xs) (fun s => obsMG n (fs1 ++ fs2) (fn1 ++ fn2) xs (getT s)) M loose w := fun os => by
  obtain ⟨s, e, a⟩ := Option.map_eq_some_iff.mp (hA os)
  have b := hB os
  have c := hC os
  rw [e] at b c
  rw [e]
  have b' : obsMG n fs1 fn1 xs (getT s) = valM fn1 xs := Option.some.inj b
  have c' : obsMG n fs2 fn2 [] (getT s) = valM fn2 [] := Option.some.inj c
  obtain ⟨a1, a2⟩ := Prod.mk.inj a
  refine congrArg some (Prod.ext a1 (Prod.ext a2 ?_))
  exact obsM_app fs1 fs2 fn1 fn2 xs _ b' c'
end Tc
namespace K29
open PySem L2 PyProof.Rows Tc Evl
theorem kb_fw {K : PySem.W.Frag} {f : Addr} {fd : FuncData} (F : Fun K "first_wrong" "first_wrong" sFw f fd) : KBn K fd ["table", "log", "events", "start"] 3 ["start"] (· ++ ·) (· ++ ·) := by
  obtain ⟨o1, o2, kw, dc, m1, a1, c1, c2, sl, rfl, _, _⟩ := F.ex
  refine ⟨fun s us ws _ h1 h2 => ?_, fun r1 r2 => r1.append r2⟩
  match us, ws, h1, h2 with
  | [a, b, c], [d], _, _ => exact .of_eq rfl
theorem kd_fw {K : PySem.W.Frag} {f : Addr} {fd : FuncData} (F : FunD K "first_wrong" "first_wrong" (defArgs sFw) (defBody sFw) (defScope sFw) [] [("start", .int 0)] f fd) : ∃ ds, Vals [.int 0] ds ∧ Binds K fd ["table", "log", "events", "start"] ds :=
  F.binds0 (ps := ["table", "log", "events", "start"]) 3 (by simp) rfl fun D doc pm an cdv ct us ks l1 l2 => by
    match us, ks, l1, l2 with
    | [a, b, c], [m], _, _ => exact ⟨_, _, _, _, _, _, rfl, rfl, rfl⟩
def fileN : Str := PySem.Challenge.pw_tidecopy_k29_events_judged.main.file
def hfs1 : List (PySem.W.Frag → Bool) := [fun K => (He.Fa.glo "is_number").ok K,
  fun K => (He.Fa.glo "is_key").ok K,
  fun K => (He.Fa.glo "is_worth").ok K,
  fun K => (He.Fa.glo "check_place").ok K,
  fun K => (He.Fa.glo "changes_of").ok K,
  fun K => (He.Fa.glo "carry").ok K,
  fun K => (He.Fa.glo "changed").ok K,
  fun K => (He.Fa.glo "is_event").ok K,
  fun K => (He.Fa.glo "events_of_changes").ok K,
  fun K => (He.Fa.glo "_law_bag").ok K,
  fun K => (He.Fa.glo "_law_take").ok K,
  fun K => (He.Fa.glo "_law_of").ok K,
  fun K => (He.Fa.glo "_law_keys").ok K,
  fun K => (He.Fa.glo "_law_table").ok K,
  fun K => (He.Fa.glo "_law_changes").ok K,
  fun K => (He.Fa.glo "_law_entry").ok K,
  fun K => (He.Fa.glo "_law_log").ok K,
  fun K => (He.Fa.glo "_law_done").ok K,
  fun K => (He.Fa.glo "_law_pairs").ok K,
  fun K => (He.Fa.glo "_law_groups").ok K,
  fun K => (He.Fa.glo "_law_at").ok K,
  fun K => (He.Fa.glo "_law_moved").ok K,
  fun K => (He.Fa.glo "_law_wrong_at").ok K,
  fun K => (He.Fa.glo "_law_true_events").ok K,
  fun K => (He.Fa.glo "_law_other_events").ok K,
  fun K => (He.Fa.glo "law").ok K,
  fun K => (He.Fa.glo "first_wrong").ok K,
  fun K => (He.Fa.glo "Walk").ok K]
def hfs2 : List (PySem.W.Frag → Bool) := [fun K => (He.Fa.cls "Walk").ok K,
  fun K => (He.Fa.mkr "Walk").ok K,
  fun K => (He.Fa.meth "Walk" "go_to").ok K,
  fun K => (He.Fa.meth "Walk" "accepts").ok K,
  fun K => (He.Fa.meth "Walk" "accepts_copy").ok K,
  fun K => (He.Fa.noat "Walk" "log").ok K,
  fun K => (He.Fa.noat "Walk" "at").ok K,
  fun K => (He.Fa.noat "Walk" "due").ok K,
  fun K => (He.Fa.noat "Walk" "many_given").ok K,
  fun K => (He.Fa.noat "Walk" "worths").ok K,
  fun K => (He.Fa.noat "Walk" "settled").ok K,
  fun K => (He.Fa.free "isinstance").ok K,
  fun K => (He.Fa.free "int").ok K,
  fun K => (He.Fa.free "bool").ok K,
  fun K => (He.Fa.free "tuple").ok K,
  fun K => (He.Fa.free "list").ok K,
  fun K => (He.Fa.free "str").ok K,
  fun K => (He.Fa.free "len").ok K,
  fun K => (He.Fa.free "set").ok K,
  fun K => (He.Fa.free "sorted").ok K,
  fun K => (He.Fa.free "range").ok K,
  fun K => (He.Fa.free "abs").ok K,
  fun K => (He.Fa.free "min").ok K,
  fun K => (He.Fa.free "max").ok K,
  fun K => (He.Fa.free "dict").ok K,
  fun K => (He.Fa.free "all").ok K,
  fun K => (He.Fa.free "enumerate").ok K,
  fun K => (He.Fa.int "KEYS" 1000).ok K,
  fun K => (He.Fa.int "WORTHS" 1000).ok K]
def hfn1 : List He.DefD := [⟨("is_number", none), "is_number", "is_number", defArgs sNum, defBody sNum, defScope sNum, [], []⟩,
  ⟨("is_key", none), "is_key", "is_key", defArgs sKey, defBody sKey, defScope sKey, [], []⟩,
  ⟨("is_worth", none), "is_worth", "is_worth", defArgs sWorth, defBody sWorth, defScope sWorth, [], []⟩,
  ⟨("check_place", none), "check_place", "check_place", defArgs sPl, defBody sPl, defScope sPl, [], []⟩,
  ⟨("changes_of", none), "changes_of", "changes_of", defArgs sCo, defBody sCo, defScope sCo, [], []⟩,
  ⟨("carry", none), "carry", "carry", defArgs sCa, defBody sCa, defScope sCa, [], []⟩,
  ⟨("changed", none), "changed", "changed", defArgs sCd, defBody sCd, defScope sCd, [], []⟩,
  ⟨("is_event", none), "is_event", "is_event", defArgs sIe, defBody sIe, defScope sIe, [], []⟩,
  ⟨("events_of_changes", none), "events_of_changes", "events_of_changes", defArgs sEoc, defBody sEoc, defScope sEoc, [], []⟩,
  ⟨("_law_bag", none), "_law_bag", "_law_bag", defArgs sBag, defBody sBag, defScope sBag, [], []⟩,
  ⟨("_law_take", none), "_law_take", "_law_take", defArgs sTake, defBody sTake, defScope sTake, [], []⟩,
  ⟨("_law_of", none), "_law_of", "_law_of", defArgs sOf, defBody sOf, defScope sOf, [], []⟩,
  ⟨("_law_keys", none), "_law_keys", "_law_keys", defArgs sKeys, defBody sKeys, defScope sKeys, [], []⟩,
  ⟨("_law_table", none), "_law_table", "_law_table", defArgs sTab, defBody sTab, defScope sTab, [], []⟩,
  ⟨("_law_changes", none), "_law_changes", "_law_changes", defArgs sLCh, defBody sLCh, defScope sLCh, [], []⟩]
def hfn2 : List He.DefD := [⟨("_law_entry", none), "_law_entry", "_law_entry", defArgs sLEn, defBody sLEn, defScope sLEn, [], []⟩,
  ⟨("_law_log", none), "_law_log", "_law_log", defArgs sLLog, defBody sLLog, defScope sLLog, [], []⟩,
  ⟨("_law_done", none), "_law_done", "_law_done", defArgs sDone, defBody sDone, defScope sDone, [], []⟩,
  ⟨("_law_pairs", none), "_law_pairs", "_law_pairs", defArgs sPairs, defBody sPairs, defScope sPairs, [], []⟩,
  ⟨("_law_groups", none), "_law_groups", "_law_groups", defArgs sGroups, defBody sGroups, defScope sGroups, [], []⟩,
  ⟨("_law_at", none), "_law_at", "_law_at", defArgs sAt, defBody sAt, defScope sAt, [], []⟩,
  ⟨("_law_moved", none), "_law_moved", "_law_moved", defArgs sMoved, defBody sMoved, defScope sMoved, [], []⟩,
  ⟨("_law_wrong_at", none), "_law_wrong_at", "_law_wrong_at", defArgs sWa, defBody sWa, defScope sWa, [], []⟩,
  ⟨("_law_true_events", none), "_law_true_events", "_law_true_events", defArgs sTe, defBody sTe, defScope sTe, [], []⟩,
  ⟨("_law_other_events", none), "_law_other_events", "_law_other_events", defArgs sOe, defBody sOe, defScope sOe, [], []⟩,
  ⟨("law", none), "law", "law", defArgs sLaw, defBody sLaw, defScope sLaw, [], []⟩,
  ⟨("first_wrong", none), "first_wrong", "first_wrong", defArgs sFw, defBody sFw, defScope sFw, [], [("start", .int 0)]⟩,
  ⟨("Walk", some "__init__"), "__init__", "Walk.__init__", defArgs mWin, defBody mWin, defScope mWin, [], []⟩,
  ⟨("Walk", some "go_to"), "go_to", "Walk.go_to", defArgs mGo, defBody mGo, defScope mGo, [], []⟩,
  ⟨("Walk", some "accepts"), "accepts", "Walk.accepts", defArgs mAcc, defBody mAcc, defScope mAcc, [], []⟩,
  ⟨("Walk", some "accepts_copy"), "accepts_copy", "Walk.accepts_copy", defArgs mAcp, defBody mAcp, defScope mAcp, [], []⟩]
abbrev hfs : List (PySem.W.Frag → Bool) := hfs1 ++ hfs2
abbrev hfn : List He.DefD := hfn1 ++ hfn2
def hxs : List XcD := []
set_option maxHeartbeats 4000000 in
theorem all_mk {P : Program} {w : World} {K : PySem.W.Frag} {h : Heap} {mg : Str → Option Value} {fa : Addr} (X : K.In h) (G : h.Ns mainGlobals mg) (hfa : mg "law" = some (.ref fa)) (xFile : P.main.file = fileN) (xP : (P.main.scope.names.lookup ("super" : Str)).isSome = false) (c : SaysM hfs hfn hxs K) :
    ∃ fd : FuncData, (∀ (s : Shared) (v : Value), BindsTo s fd ⟨[v], []⟩ [("script", v)]) ∧ ∀ base : Heap, K.In base → base.Ns mainGlobals mg → FnOk P w K mg base CX0 6 fa fd ["script"] (spLaw K) := by
  obtain ⟨fd1, FD1⟩ : ∃ fd, FunD K "is_number" "is_number" (defArgs sNum) (defBody sNum) (defScope sNum) [] [] (He.ga K "is_number") fd := c.def_ 0
  have F1 := fun_of FD1
  have m1 := He.glo_ok X G (c.fact 0 (f := fun K => (He.Fa.glo "is_number").ok K) rfl)
  have b1 := F1.binds (ps := ["thing"]) fun _ _ _ _ _ _ us hl => match us, hl with | [_], _ => rfl
  obtain ⟨fd2, FD2⟩ : ∃ fd, FunD K "is_key" "is_key" (defArgs sKey) (defBody sKey) (defScope sKey) [] [] (He.ga K "is_key") fd := c.def_ 1
  have F2 := fun_of FD2
  have m2 := He.glo_ok X G (c.fact 1 (f := fun K => (He.Fa.glo "is_key").ok K) rfl)
  have b2 := F2.binds (ps := ["thing"]) fun _ _ _ _ _ _ us hl => match us, hl with | [_], _ => rfl
  obtain ⟨fd3, FD3⟩ : ∃ fd, FunD K "is_worth" "is_worth" (defArgs sWorth) (defBody sWorth) (defScope sWorth) [] [] (He.ga K "is_worth") fd := c.def_ 2
  have F3 := fun_of FD3
  have m3 := He.glo_ok X G (c.fact 2 (f := fun K => (He.Fa.glo "is_worth").ok K) rfl)
  have b3 := F3.binds (ps := ["thing"]) fun _ _ _ _ _ _ us hl => match us, hl with | [_], _ => rfl
  obtain ⟨fd4, FD4⟩ : ∃ fd, FunD K "check_place" "check_place" (defArgs sPl) (defBody sPl) (defScope sPl) [] [] (He.ga K "check_place") fd := c.def_ 3
  have F4 := fun_of FD4
  have m4 := He.glo_ok X G (c.fact 3 (f := fun K => (He.Fa.glo "check_place").ok K) rfl)
  have b4 := F4.binds (ps := ["log", "place"]) fun _ _ _ _ _ _ us hl => match us, hl with | [_, _], _ => rfl
  obtain ⟨fd5, FD5⟩ : ∃ fd, FunD K "changes_of" "changes_of" (defArgs sCo) (defBody sCo) (defScope sCo) [] [] (He.ga K "changes_of") fd := c.def_ 4
  have F5 := fun_of FD5
  have m5 := He.glo_ok X G (c.fact 4 (f := fun K => (He.Fa.glo "changes_of").ok K) rfl)
  have b5 := F5.binds (ps := ["entry"]) fun _ _ _ _ _ _ us hl => match us, hl with | [_], _ => rfl
  obtain ⟨fd6, FD6⟩ : ∃ fd, FunD K "carry" "carry" (defArgs sCa) (defBody sCa) (defScope sCa) [] [] (He.ga K "carry") fd := c.def_ 5
  have F6 := fun_of FD6
  have m6 := He.glo_ok X G (c.fact 5 (f := fun K => (He.Fa.glo "carry").ok K) rfl)
  have b6 := F6.binds (ps := ["rows", "log", "low", "high"]) fun _ _ _ _ _ _ us hl => match us, hl with | [_, _, _, _], _ => rfl
  obtain ⟨fd7, FD7⟩ : ∃ fd, FunD K "changed" "changed" (defArgs sCd) (defBody sCd) (defScope sCd) [] [] (He.ga K "changed") fd := c.def_ 6
  have F7 := fun_of FD7
  have m7 := He.glo_ok X G (c.fact 6 (f := fun K => (He.Fa.glo "changed").ok K) rfl)
  have b7 := F7.binds (ps := ["log", "low", "high"]) fun _ _ _ _ _ _ us hl => match us, hl with | [_, _, _], _ => rfl
  obtain ⟨fd8, FD8⟩ : ∃ fd, FunD K "is_event" "is_event" (defArgs sIe) (defBody sIe) (defScope sIe) [] [] (He.ga K "is_event") fd := c.def_ 7
  have F8 := fun_of FD8
  have m8 := He.glo_ok X G (c.fact 7 (f := fun K => (He.Fa.glo "is_event").ok K) rfl)
  have b8 := F8.binds (ps := ["place", "word", "key", "worth"]) fun _ _ _ _ _ _ us hl => match us, hl with | [_, _, _, _], _ => rfl
  obtain ⟨fd9, FD9⟩ : ∃ fd, FunD K "events_of_changes" "events_of_changes" (defArgs sEoc) (defBody sEoc) (defScope sEoc) [] [] (He.ga K "events_of_changes") fd := c.def_ 8
  have F9 := fun_of FD9
  have m9 := He.glo_ok X G (c.fact 8 (f := fun K => (He.Fa.glo "events_of_changes").ok K) rfl)
  have b9 := F9.binds (ps := ["log", "start"]) fun _ _ _ _ _ _ us hl => match us, hl with | [_, _], _ => rfl
  obtain ⟨fd10, FD10⟩ : ∃ fd, FunD K "_law_bag" "_law_bag" (defArgs sBag) (defBody sBag) (defScope sBag) [] [] (He.ga K "_law_bag") fd := c.def_ 9
  have F10 := fun_of FD10
  have m10 := He.glo_ok X G (c.fact 9 (f := fun K => (He.Fa.glo "_law_bag").ok K) rfl)
  have b10 := F10.binds (ps := ["script", "k"]) fun _ _ _ _ _ _ us hl => match us, hl with | [_, _], _ => rfl
  obtain ⟨fd11, FD11⟩ : ∃ fd, FunD K "_law_take" "_law_take" (defArgs sTake) (defBody sTake) (defScope sTake) [] [] (He.ga K "_law_take") fd := c.def_ 10
  have F11 := fun_of FD11
  have m11 := He.glo_ok X G (c.fact 10 (f := fun K => (He.Fa.glo "_law_take").ok K) rfl)
  have b11 := F11.binds (ps := ["bag", "many"]) fun _ _ _ _ _ _ us hl => match us, hl with | [_, _], _ => rfl
  obtain ⟨fd12, FD12⟩ : ∃ fd, FunD K "_law_of" "_law_of" (defArgs sOf) (defBody sOf) (defScope sOf) [] [] (He.ga K "_law_of") fd := c.def_ 11
  have F12 := fun_of FD12
  have m12 := He.glo_ok X G (c.fact 11 (f := fun K => (He.Fa.glo "_law_of").ok K) rfl)
  have b12 := F12.binds (ps := ["bag", "some"]) fun _ _ _ _ _ _ us hl => match us, hl with | [_, _], _ => rfl
  obtain ⟨fd13, FD13⟩ : ∃ fd, FunD K "_law_keys" "_law_keys" (defArgs sKeys) (defBody sKeys) (defScope sKeys) [] [] (He.ga K "_law_keys") fd := c.def_ 12
  have F13 := fun_of FD13
  have m13 := He.glo_ok X G (c.fact 12 (f := fun K => (He.Fa.glo "_law_keys").ok K) rfl)
  have b13 := F13.binds (ps := ["bag"]) fun _ _ _ _ _ _ us hl => match us, hl with | [_], _ => rfl
  obtain ⟨fd14, FD14⟩ : ∃ fd, FunD K "_law_table" "_law_table" (defArgs sTab) (defBody sTab) (defScope sTab) [] [] (He.ga K "_law_table") fd := c.def_ 13
  have F14 := fun_of FD14
  have m14 := He.glo_ok X G (c.fact 13 (f := fun K => (He.Fa.glo "_law_table").ok K) rfl)
  have b14 := F14.binds (ps := ["bag", "keys"]) fun _ _ _ _ _ _ us hl => match us, hl with | [_, _], _ => rfl
  obtain ⟨fd15, FD15⟩ : ∃ fd, FunD K "_law_changes" "_law_changes" (defArgs sLCh) (defBody sLCh) (defScope sLCh) [] [] (He.ga K "_law_changes") fd := c.def_ 14
  have F15 := fun_of FD15
  have m15 := He.glo_ok X G (c.fact 14 (f := fun K => (He.Fa.glo "_law_changes").ok K) rfl)
  have b15 := F15.binds (ps := ["bag", "keys", "most"]) fun _ _ _ _ _ _ us hl => match us, hl with | [_, _, _], _ => rfl
  obtain ⟨fd16, FD16⟩ : ∃ fd, FunD K "_law_entry" "_law_entry" (defArgs sLEn) (defBody sLEn) (defScope sLEn) [] [] (He.ga K "_law_entry") fd := c.def_ 15
  have F16 := fun_of FD16
  have m16 := He.glo_ok X G (c.fact 15 (f := fun K => (He.Fa.glo "_law_entry").ok K) rfl)
  have b16 := F16.binds (ps := ["bag", "keys"]) fun _ _ _ _ _ _ us hl => match us, hl with | [_, _], _ => rfl
  obtain ⟨fd17, FD17⟩ : ∃ fd, FunD K "_law_log" "_law_log" (defArgs sLLog) (defBody sLLog) (defScope sLLog) [] [] (He.ga K "_law_log") fd := c.def_ 16
  have F17 := fun_of FD17
  have m17 := He.glo_ok X G (c.fact 16 (f := fun K => (He.Fa.glo "_law_log").ok K) rfl)
  have b17 := F17.binds (ps := ["bag", "keys", "most"]) fun _ _ _ _ _ _ us hl => match us, hl with | [_, _, _], _ => rfl
  obtain ⟨fd18, FD18⟩ : ∃ fd, FunD K "_law_done" "_law_done" (defArgs sDone) (defBody sDone) (defScope sDone) [] [] (He.ga K "_law_done") fd := c.def_ 17
  have F18 := fun_of FD18
  have m18 := He.glo_ok X G (c.fact 17 (f := fun K => (He.Fa.glo "_law_done").ok K) rfl)
  have b18 := F18.binds (ps := ["rows", "changes"]) fun _ _ _ _ _ _ us hl => match us, hl with | [_, _], _ => rfl
  obtain ⟨fd19, FD19⟩ : ∃ fd, FunD K "_law_pairs" "_law_pairs" (defArgs sPairs) (defBody sPairs) (defScope sPairs) [] [] (He.ga K "_law_pairs") fd := c.def_ 18
  have F19 := fun_of FD19
  have m19 := He.glo_ok X G (c.fact 18 (f := fun K => (He.Fa.glo "_law_pairs").ok K) rfl)
  have b19 := F19.binds (ps := ["rows"]) fun _ _ _ _ _ _ us hl => match us, hl with | [_], _ => rfl
  obtain ⟨fd20, FD20⟩ : ∃ fd, FunD K "_law_groups" "_law_groups" (defArgs sGroups) (defBody sGroups) (defScope sGroups) [] [] (He.ga K "_law_groups") fd := c.def_ 19
  have F20 := fun_of FD20
  have m20 := He.glo_ok X G (c.fact 19 (f := fun K => (He.Fa.glo "_law_groups").ok K) rfl)
  have b20 := F20.binds (ps := ["log"]) fun _ _ _ _ _ _ us hl => match us, hl with | [_], _ => rfl
  obtain ⟨fd21, FD21⟩ : ∃ fd, FunD K "_law_at" "_law_at" (defArgs sAt) (defBody sAt) (defScope sAt) [] [] (He.ga K "_law_at") fd := c.def_ 20
  have F21 := fun_of FD21
  have m21 := He.glo_ok X G (c.fact 20 (f := fun K => (He.Fa.glo "_law_at").ok K) rfl)
  have b21 := F21.binds (ps := ["table", "log", "place"]) fun _ _ _ _ _ _ us hl => match us, hl with | [_, _, _], _ => rfl
  obtain ⟨fd22, FD22⟩ : ∃ fd, FunD K "_law_moved" "_law_moved" (defArgs sMoved) (defBody sMoved) (defScope sMoved) [] [] (He.ga K "_law_moved") fd := c.def_ 21
  have F22 := fun_of FD22
  have m22 := He.glo_ok X G (c.fact 21 (f := fun K => (He.Fa.glo "_law_moved").ok K) rfl)
  have b22 := F22.binds (ps := ["log", "low", "high"]) fun _ _ _ _ _ _ us hl => match us, hl with | [_, _, _], _ => rfl
  obtain ⟨fd23, FD23⟩ : ∃ fd, FunD K "_law_wrong_at" "_law_wrong_at" (defArgs sWa) (defBody sWa) (defScope sWa) [] [] (He.ga K "_law_wrong_at") fd := c.def_ 22
  have F23 := fun_of FD23
  have m23 := He.glo_ok X G (c.fact 22 (f := fun K => (He.Fa.glo "_law_wrong_at").ok K) rfl)
  have b23 := F23.binds (ps := ["table", "log", "events", "sta1"]) fun _ _ _ _ _ _ us hl => match us, hl with | [_, _, _, _], _ => rfl
  obtain ⟨fd24, FD24⟩ : ∃ fd, FunD K "_law_true_events" "_law_true_events" (defArgs sTe) (defBody sTe) (defScope sTe) [] [] (He.ga K "_law_true_events") fd := c.def_ 23
  have F24 := fun_of FD24
  have m24 := He.glo_ok X G (c.fact 23 (f := fun K => (He.Fa.glo "_law_true_events").ok K) rfl)
  have b24 := F24.binds (ps := ["bag", "table", "log", "sta1"]) fun _ _ _ _ _ _ us hl => match us, hl with | [_, _, _, _], _ => rfl
  obtain ⟨fd25, FD25⟩ : ∃ fd, FunD K "_law_other_events" "_law_other_events" (defArgs sOe) (defBody sOe) (defScope sOe) [] [] (He.ga K "_law_other_events") fd := c.def_ 24
  have F25 := fun_of FD25
  have m25 := He.glo_ok X G (c.fact 24 (f := fun K => (He.Fa.glo "_law_other_events").ok K) rfl)
  have b25 := F25.binds (ps := ["bag", "events", "keys"]) fun _ _ _ _ _ _ us hl => match us, hl with | [_, _, _], _ => rfl
  obtain ⟨fd26, FD26⟩ : ∃ fd, FunD K "law" "law" (defArgs sLaw) (defBody sLaw) (defScope sLaw) [] [] (He.ga K "law") fd := c.def_ 25
  have F26 := fun_of FD26
  have m26 := He.glo_ok X G (c.fact 25 (f := fun K => (He.Fa.glo "law").ok K) rfl)
  obtain ⟨fdFw, FDFw⟩ : ∃ fd, FunD K "first_wrong" "first_wrong" (defArgs sFw) (defBody sFw) (defScope sFw) [] [("start", .int 0)] (He.ga K "first_wrong") fd := c.def_ 26
  have FFw := fun_of FDFw
  have mFw := He.glo_ok X G (c.fact 26 (f := fun K => (He.Fa.glo "first_wrong").ok K) rfl)
  obtain ⟨dsFw, vFw, bFw⟩ := kd_fw FDFw
  have kbFw := kb_fw FFw
  have aCW := He.glo_ok X G (c.fact 27 (f := fun K => (He.Fa.glo "Walk").ok K) rfl)
  obtain ⟨fdWIn, FDWIn⟩ : ∃ fd, FunD K "__init__" "Walk.__init__" (defArgs mWin) (defBody mWin) (defScope mWin) [] [] (He.ma K (He.ga K "Walk") "__init__") fd := c.def_ 27
  have FWIn := fun_of FDWIn
  have bWIn := FWIn.binds (ps := ["self", "table", "log", "start"]) fun _ _ _ _ _ _ us hl => match us, hl with | [_, _, _, _], _ => rfl
  have mkTW := He.mkr_ok (c.fact 29 (f := fun K => (He.Fa.mkr "Walk").ok K) rfl)
  obtain ⟨fdWGo, FDWGo⟩ : ∃ fd, FunD K "go_to" "Walk.go_to" (defArgs mGo) (defBody mGo) (defScope mGo) [] [] (He.ma K (He.ga K "Walk") "go_to") fd := c.def_ 28
  have FWGo := fun_of FDWGo
  have bWGo := FWGo.binds (ps := ["self", "place"]) fun _ _ _ _ _ _ us hl => match us, hl with | [_, _], _ => rfl
  have qWGo := He.meth_ok (c.fact 30 (f := fun K => (He.Fa.meth "Walk" "go_to").ok K) rfl)
  obtain ⟨fdWAc, FDWAc⟩ : ∃ fd, FunD K "accepts" "Walk.accepts" (defArgs mAcc) (defBody mAcc) (defScope mAcc) [] [] (He.ma K (He.ga K "Walk") "accepts") fd := c.def_ 29
  have FWAc := fun_of FDWAc
  have bWAc := FWAc.binds (ps := ["self", "event"]) fun _ _ _ _ _ _ us hl => match us, hl with | [_, _], _ => rfl
  have qWAc := He.meth_ok (c.fact 31 (f := fun K => (He.Fa.meth "Walk" "accepts").ok K) rfl)
  obtain ⟨fdWAp, FDWAp⟩ : ∃ fd, FunD K "accepts_copy" "Walk.accepts_copy" (defArgs mAcp) (defBody mAcp) (defScope mAcp) [] [] (He.ma K (He.ga K "Walk") "accepts_copy") fd := c.def_ 30
  have FWAp := fun_of FDWAp
  have bWAp := FWAp.binds (ps := ["self", "key", "worth"]) fun _ _ _ _ _ _ us hl => match us, hl with | [_, _, _], _ => rfl
  have qWAp := He.meth_ok (c.fact 32 (f := fun K => (He.Fa.meth "Walk" "accepts_copy").ok K) rfl)
  have TW : WTx K mg (He.ga K "Walk") := ⟨He.cls_ok (c.fact 28 (f := fun K => (He.Fa.cls "Walk").ok K) rfl), He.noat_ok (c.fact 33 (f := fun K => (He.Fa.noat "Walk" "log").ok K) rfl), He.noat_ok (c.fact 34 (f := fun K => (He.Fa.noat "Walk" "at").ok K) rfl), He.noat_ok (c.fact 35 (f := fun K => (He.Fa.noat "Walk" "due").ok K) rfl), He.noat_ok (c.fact 36 (f := fun K => (He.Fa.noat "Walk" "many_given").ok K) rfl), He.noat_ok (c.fact 37 (f := fun K => (He.Fa.noat "Walk" "worths").ok K) rfl), He.noat_ok (c.fact 38 (f := fun K => (He.Fa.noat "Walk" "settled").ok K) rfl), aCW⟩
  have N : Names mg := ⟨He.free_ok X G (c.fact 39 (f := fun K => (He.Fa.free "isinstance").ok K) rfl), He.free_ok X G (c.fact 40 (f := fun K => (He.Fa.free "int").ok K) rfl), He.free_ok X G (c.fact 41 (f := fun K => (He.Fa.free "bool").ok K) rfl), He.free_ok X G (c.fact 42 (f := fun K => (He.Fa.free "tuple").ok K) rfl), He.free_ok X G (c.fact 43 (f := fun K => (He.Fa.free "list").ok K) rfl), He.free_ok X G (c.fact 44 (f := fun K => (He.Fa.free "str").ok K) rfl), He.free_ok X G (c.fact 45 (f := fun K => (He.Fa.free "len").ok K) rfl), He.free_ok X G (c.fact 46 (f := fun K => (He.Fa.free "set").ok K) rfl), He.free_ok X G (c.fact 47 (f := fun K => (He.Fa.free "sorted").ok K) rfl), He.free_ok X G (c.fact 48 (f := fun K => (He.Fa.free "range").ok K) rfl), He.free_ok X G (c.fact 49 (f := fun K => (He.Fa.free "abs").ok K) rfl), He.free_ok X G (c.fact 50 (f := fun K => (He.Fa.free "min").ok K) rfl), He.free_ok X G (c.fact 51 (f := fun K => (He.Fa.free "max").ok K) rfl), He.free_ok X G (c.fact 52 (f := fun K => (He.Fa.free "dict").ok K) rfl), He.free_ok X G (c.fact 53 (f := fun K => (He.Fa.free "all").ok K) rfl), He.free_ok X G (c.fact 54 (f := fun K => (He.Fa.free "enumerate").ok K) rfl), He.int_ok X G (c.fact 55 (f := fun K => (He.Fa.int "KEYS" 1000).ok K) rfl), He.int_ok X G (c.fact 56 (f := fun K => (He.Fa.int "WORTHS" 1000).ok K) rfl)⟩
  have e := hfa.symm.trans m26
  cases e
  have bl := FunD.bindsA (ps := ["script"]) FD26 fun _ _ _ _ _ _ us hl => match us, hl with | [_], _ => rfl
  refine ⟨fd26, fun s v => bl s [v] rfl, fun base _ _ => ?_⟩
  have dNum : Own P w K mg base "is_number" ["thing"] 1 (spTold K isNum) := ⟨_, _, ok_num (k := 0) F1 N, m1, F1.kp, b1⟩
  have dKey : Own P w K mg base "is_key" ["thing"] 2 (spTold K isKey) := ⟨_, _, ok_key F2 N dNum, m2, F2.kp, b2⟩
  have dWor : Own P w K mg base "is_worth" ["thing"] 2 (spTold K isKey) := ⟨_, _, ok_worth F3 N dNum, m3, F3.kp, b3⟩
  have dPl : Own P w K mg base "check_place" ["log", "place"] 1 (spPlace K) := ⟨_, _, ok_place (k := 0) F4 N, m4, F4.kp, b4⟩
  have dCo : Own P w K mg base "changes_of" ["entry"] 1 (spChsOf K) := ⟨_, _, ok_chsOf (k := 0) F5 N, m5, F5.kp, b5⟩
  have dCa : Own P w K mg base "carry" ["rows", "log", "low", "high"] 2 (spCarry K) := ⟨_, _, ok_carry (k := 1) F6 N dCo (by decide), m6, F6.kp, b6⟩
  have dCd : Own P w K mg base "changed" ["log", "low", "high"] 2 (spChanged K) := ⟨_, _, ok_changed (k := 1) F7 N dPl (by decide) dCo (by decide), m7, F7.kp, b7⟩
  have dIe : Own P w K mg base "is_event" ["place", "word", "key", "worth"] 3 spIe := ⟨_, _, ok_ie (k := 2) F8 dNum (by decide) dKey (by decide) dWor (by decide), m8, F8.kp, b8⟩
  have dEo : Own P w K mg base "events_of_changes" ["log", "start"] 2 (spEoc K) := ⟨_, _, ok_eoc (k := 1) F9 N dCo (by decide), m9, F9.kp, b9⟩
  have KIn : FnOk P w K mg base CX0 3 _ _ ["self", "table", "log", "start"] (spWin K (He.ga K "Walk")) := ok_win (k := 2) FWIn TW dEo (by decide) dCa (by decide)
  have KGo : FnOk P w K mg base CX0 3 _ _ ["self", "place"] (spGo K (He.ga K "Walk")) := ok_go (k := 2) FWGo TW dCa (by decide) dCd (by decide)
  have KAp : FnOk P w K mg base CX0 1 _ _ ["self", "key", "worth"] (spAcp K (He.ga K "Walk")) := ok_acp (k := 0) FWAp TW
  have KAc : FnOk P w K mg base CX0 4 _ _ ["self", "event"] (spAcc K (He.ga K "Walk")) := ok_acc (k := 3) FWAc N TW dIe (by decide) KGo bWGo qWGo (by decide) KAp bWAp qWAp (by decide)
  have dFw : OwnND P w K mg base "first_wrong" ["table", "log", "events", "start"] 3 ["start"] [.int 0] 5 (spFw K) := ⟨_, _, dsFw, ok_fw (k := 4) FFw N TW mkTW KIn bWIn (by decide) KAc bWAc qWAc (by decide), mFw, FFw.kp, kbFw, vFw, bFw⟩
  have dT : Own P w K mg base "_law_take" ["bag", "many"] 1 spTake := ⟨_, _, ok_take (k := 0) F11, m11, F11.kp, b11⟩
  have dB : Own P w K mg base "_law_bag" ["script", "k"] 1 (spBag K) := ⟨_, _, ok_bag (k := 0) F10 N, m10, F10.kp, b10⟩
  have dOf : Own P w K mg base "_law_of" ["bag", "some"] 2 spOf := ⟨_, _, ok_of (k := 1) (kO := 0) (kC := 0) F12 N dT (by decide), m12, F12.kp, b12⟩
  have dKs : Own P w K mg base "_law_keys" ["bag"] 2 spKeysQ := ⟨_, _, ok_keys F13 N dT, m13, F13.kp, b13⟩
  have dTb : Own P w K mg base "_law_table" ["bag", "keys"] 2 (spTabP K) := ⟨_, _, ok_tab F14 N dT, m14, F14.kp, b14⟩
  have dCh : Own P w K mg base "_law_changes" ["bag", "keys", "most"] 3 (spChsM K) := ⟨_, _, ok_chsM (k := 2) (kC := 0) F15 N dT (by decide) dOf (by decide), m15, F15.kp, b15⟩
  have dEn : Own P w K mg base "_law_entry" ["bag", "keys"] 4 (spEntM K) := ⟨_, _, ok_entM (k := 3) (kO := 0) F16 N dT (by decide) dCh (by decide), m16, F16.kp, b16⟩
  have dLg : Own P w K mg base "_law_log" ["bag", "keys", "most"] 5 (spLgM K) := ⟨_, _, ok_llogM (k := 4) (kO := 0) F17 N dT (by decide) dEn (by decide), m17, F17.kp, b17⟩
  have dDn : Own P w K mg base "_law_done" ["rows", "changes"] 1 (spDone K) := ⟨_, _, ok_done (k := 0) F18, m18, F18.kp, b18⟩
  have dPa : Own P w K mg base "_law_pairs" ["rows"] 1 (spPairs K) := ⟨_, _, ok_pairs (k := 0) F19 N, m19, F19.kp, b19⟩
  have dGr : Own P w K mg base "_law_groups" ["log"] 1 (spGroups K) := ⟨_, _, ok_groups (k := 0) F20, m20, F20.kp, b20⟩
  have dAt : Own P w K mg base "_law_at" ["table", "log", "place"] 2 (spAt K) := ⟨_, _, ok_at (k := 1) F21 N dGr (by decide) dDn (by decide) dPa (by decide), m21, F21.kp, b21⟩
  have dMv : Own P w K mg base "_law_moved" ["log", "low", "high"] 2 (spMoved K) := ⟨_, _, ok_moved (k := 1) F22 N dGr (by decide), m22, F22.kp, b22⟩
  have dWa : Own P w K mg base "_law_wrong_at" ["table", "log", "events", "sta1"] 3 (spWa K) := ⟨_, _, ok_wa (k := 2) F23 N dGr (by decide) dMv (by decide) dAt (by decide), m23, F23.kp, b23⟩
  have dTe : Own P w K mg base "_law_true_events" ["bag", "table", "log", "sta1"] 3 (spTe K) := ⟨_, _, ok_te (k := 2) F24 N dT (by decide) dGr (by decide) dMv (by decide) dAt (by decide), m24, F24.kp, b24⟩
  have dOe : Own P w K mg base "_law_other_events" ["bag", "events", "keys"] 3 (spOe K) := ⟨_, _, ok_oe (k := 2) F25 N dT (by decide) dOf (by decide), m25, F25.kp, b25⟩
  exact ok_law (k := 5) F26 N dB (by decide) dT (by decide) dKs (by decide) dTb (by decide) dLg (by decide) dTe (by decide) dWa (by decide) dOe (by decide) dFw (by decide)
abbrev R : PySem.W.OpenRow := PySem.W.OpenLaw.row PySem.Challenge.rw_tidecopy_k29_events_judged
abbrev hk : PySem.W.Hook := hookM 5 hfs hfn hxs
def ob (s : PySem.W.SharedT) : AlM := obsMG 5 hfs hfn hxs (HandSHeadRun.getT s)
theorem ob_eq (s : PySem.W.SharedT) : ob s = hk.obs s.abs := obsMG_eq (HandSHeadRun.getT_eq s)
def loose : List Str := (["TideError", "AskedError", "NoPlace", "KEYS", "WORTHS", "is_number", "is_key", "is_worth", "check_place", "changes_of", "carry", "changed", "is_event", "events_of_changes", "Walk", "first_wrong", "_law_bag", "_law_take", "_law_of", "_law_keys", "_law_table", "_law_changes", "_law_entry", "_law_log", "_law_done", "_law_pairs", "_law_groups", "_law_at", "_law_moved", "_law_wrong_at", "_law_true_events", "_law_other_events"] : List String).map Str.ofString
end K29
set_option maxHeartbeats 0
namespace K29
open PySem L2 PyProof.Rows Tc
noncomputable abbrev endAt (w : World) (os : OsState) : Option PySem.W.SharedT := HandSHeadRun.endF (HandSHeadRun.stepQ (HandSHeadRun.denQ HandSHeadRun.tabQ) R.prog w) 20000 R.prog w os
theorem runA (w : World) (os : OsState) : (endAt w os).map (fun s => (HandSHeadRun.looksF R.prog (PySem.W.boot_heap w.params) s.abs, HandSHeadRun.seenQ (PySem.W.view R.prog [36]) loose (importedModules R.prog.main.body) (fun s => PySem.W.xlAt (PySem.W.view R.prog [36]) [] s && PySem.W.recOk R.toRowW.records s) s.abs)) = some (true, PySem.W.openGood (PySem.W.view R.prog [36]) loose) := by kernel_rfl
theorem runB (w : World) (os : OsState) : (endAt w os).map (fun s => obsMG 5 hfs1 hfn1 hxs (HandSHeadRun.getT s)) = some (valM hfn1 hxs) := by kernel_rfl
theorem runC (w : World) (os : OsState) : (endAt w os).map (fun s => obsMG 5 hfs2 hfn2 [] (HandSHeadRun.getT s)) = some (valM hfn2 []) := by kernel_rfl
theorem run (w : World) : HandSHeadRun.RunEq R (PySem.W.view R.prog [36]) hk ob 20000 loose w := run_parts (runA w) (runB w) (runC w)
end K29
open PySem PySem.W PyProof.Rows
theorem PySem.Challenge.cw_tidecopy_k29_events_judged_holds : PySem.Challenge.rw_tidecopy_k29_events_judged.Holds := by
  w_on; o_law
  refine HandSHeadRun.head_any (r := OpenLaw.row PySem.Challenge.rw_tidecopy_k29_events_judged) (q := view (OpenLaw.row PySem.Challenge.rw_tidecopy_k29_events_judged).prog [36]) (H := K29.hk) (ob := K29.ob) (M := 20000) (loose := K29.loose) (d := HandSHeadRun.topDef (OpenLaw.row PySem.Challenge.rw_tidecopy_k29_events_judged).prog 36) (kwd := []) K29.ob_eq
    (by kernel_rfl) (fun s => by kernel_rfl) K29.run (by kernel_rfl) (by kernel_rfl) (by kernel_rfl) (by rfl) (by first | assumption | decide +kernel) (by decide +kernel) ⟨rfl, rfl, rfl, rfl, rfl, by decide +kernel⟩ ?hw ?hc
  case hw => w_witness2
  case hc =>
    refine L2.walk_ofE (l := PySem.Challenge.rw_tidecopy_k29_events_judged) (n := 63) (k := 6) (x := "script") (CX := L2.CX0) rfl (by decide) (by kernel_rfl) ⟨rfl, by decide, by decide⟩ ?F (fun _ _ _ _ z => z)
    intro w mg fa h Y G hmg0
    obtain ⟨K, KX, c⟩ := Y
    have hmg : mg ("law" : PySem.Str) = some (.ref fa) := by
      have e : (HandSHeadRun.topDef (OpenLaw.row PySem.Challenge.rw_tidecopy_k29_events_judged).prog 36).name = ("law" : PySem.Str) := by kernel_rfl
      rw [← e]
      exact hmg0
    obtain ⟨fd, hb, hF⟩ := K29.all_mk (P := (PySem.Challenge.rw_tidecopy_k29_events_judged).prog) (w := w) KX G hmg rfl (by kernel_rfl) c
    exact ⟨K, fd, K29.spLaw K, KX, hb, fun H a ns hl _ hS => ⟨a, ns, rfl, hS, hl, fun _ => rfl⟩, hF⟩
